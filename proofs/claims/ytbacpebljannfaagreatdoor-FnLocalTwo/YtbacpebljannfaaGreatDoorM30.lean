/- Of what the proof is made: 5 texts, one behind the other. -/
import Derived.Test.YtbacpebljannfaaGreatDoorM29
import Derived.Test.YtbacpebljannfaaGreatDoorM23
import Derived.Test.YtbacpebljannfaaGreatDoorM19
import Derived.Test.YtbacpebljannfaaGreatDoorM26
import Derived.Test.YtbacpebljannfaaGreatDoorM28
set_option linter.unusedSimpArgs false
namespace Go.Proofs.YtbacpebljannfaaGreatDoor
open Go.RowKit Corb
theorem kR(l:List UInt8):(⟨l.toArray⟩:ByteArray).size=l.length:=by simp[ByteArray.size]
theorem BH{V sz:Nat}{l:List (Int×Int)} : ∀(L:List UInt8) (p:Nat) (R:List UInt8),Std V p (bG L++l)->p+8*L.length<=sz->R.length+L.length<=300->iB V sz L.length p R=some (R++L,p+8*L.length):=by
 intro L;induction L with
 | nil=>intro p R _ _ _;simp[iB]
 | cons b L ih=>
  intro p R h hs hR;rw[a0E]at hs hR ⊢;have e:bG (b :: L)++l=(((b.toNat:Nat):Int),(8:Int)) :: (bG L++l):=rfl;rw[e]at h;have h1:=pi (sz:=sz) h (by show p+8<=sz;omega);simp only[a0p]at h1;have h1':rdN V sz p 8=some (b.toNat,p+8):=h1;have hb:=b.toNat_lt;simp only[iB];rw[h1'];simp only[a0f];rw[BE R b.toNat hb,a0d (by omega)];simp only[a0f];rw[vL,ih (p+8) (R++[b]) h.2 (by omega) (by rw[a0m,a06];omega)];simp only[a0S,List.singleton_append,a0j,a0Y,a1W];omega
theorem Dq{V sz p c:Nat}{L R:List UInt8}{l:List (Int×Int)}(hc:(8-p%8)%8=c)(h:Std V p (((0:Int),(c:Int)) :: ((L.length:Int),(16:Int)) :: (((65535-L.length:Nat):Int),(16:Int)) :: (bG L++l)))(hs:p+c+32+8*L.length<=sz)(hR:R.length+L.length<=300) :
  iF V sz p R=some (R++L,p+c+32+8*L.length):=by
 have h0:=h.1;have h1:=h.2;have h2:=h1.2;have h3:=h2.2;simp only[a0p,Int.toNat_zero]at h0 h1 h2 h3;unfold iF jP;rw[hc,a0d h0];simp only[a0f];have r1:rdN V sz (p+c) 16=some (L.length,p+c+16):=pi (sz:=sz) h1 (by show p+c+16<=sz;omega);have r2:rdN V sz (p+c+16) 16=some (65535-L.length,p+c+16+16):=pi (sz:=sz) h2 (by show p+c+16+16<=sz;omega);rw[r1];simp only[a0f];rw[r2];simp only[a0f,a0Z];have h3':Std V (p+c+16+16) (bG L++l):=h3;rw[BH L _ R h3' (by omega) hR]
theorem na{V sz p k:Nat}{T:List UInt8}{r:List UInt8×Nat}{l:List (Int×Int)}(h:Std V p (((1:Int),(1:Int)) :: ((k:Int),(2:Int)) :: l))(hs:p+1+2<=sz)(hk:fV V sz k (p+1+2) T=some r):ia V sz p T=some r:=by
 have r1:rdN V sz p 1=some (1,p+1):=pi (sz:=sz) h (by show p+1<=sz;omega);have h2:=h.2;have r2:rdN V sz (p+1) 2=some (k,p+1+2):=by
  have:=pi (sz:=sz) h2 (by show p+1+2<=sz;omega);simpa using this
 rw[pN,r1];simp only[a0f];rw[r2];simp only[a0f];rw[hk];rfl
theorem FU{V M:Nat}(h:V<2 ^ M):jP V M=some (M+(8-M%8)%8):=by
 unfold jP;rw[a1G h,Nat.zero_mod,a0d rfl]
theorem qR{P:List (Int×Int)}{T:List UInt8}(hP:lOk P=true)(hs:(cF P).length<=700)(hp:ia (bi P).1 (8*(cF P).length) 0 []=some (T,(bi P).2)):du ⟨(cF P).toArray⟩=some (T,8*(cF P).length):=by
 have hl:(cF P).length=((bi P).2+7)/8:=by unfold cF;exact aT _ _
 have hv:=Gy hP;rw[dY hP]at hv;have hlt:(bi P).1<2 ^ (bi P).2:=vB P (by unfold lOk at hP;simp only[a0n]at hP;exact hP.1);unfold du kB;rw[a0d (by rw[kR];exact hs)];have e1:ap ⟨(cF P).toArray⟩=(bi P).1:=by unfold ap;simpa using hv
 have e2:(⟨(cF P).toArray⟩:ByteArray).size=(cF P).length:=kR _;rw[e1,e2,hp];simp only[a0f];rw[FU hlt];simp only[a0f,a0j,a0Y,a1W];rw[hl];omega
theorem nB{P:List (Int×Int)}(hP:lOk P=true):bN P=(bi P).2/\bN P<=8*(cF P).length/\Std (bi P).1 0 P:=by
 have h:bj P=true:=by unfold lOk at hP;simp only[a0n]at hP;exact hP.1
 have h1:=Dr h;have hl:(cF P).length=((bi P).2+7)/8:=by unfold cF;exact aT _ _
 have h2:=IG 0 h;rw[Nat.zero_mul,a1p]at h2;refine⟨h1,?_,h2⟩;unfold bN;rw[h1,hl];omega
theorem DW(L:List UInt8):bN (bG L)=8*L.length:=by
 induction L with
 | nil=>rfl
 | cons b L ih=>
  have e:bG (b :: L)=(((b.toNat:Nat):Int),(8:Int)) :: bG L:=rfl;rw[e,eH,ih,a0E];simp only[Int.reduceToNat];omega
theorem ub(L:List UInt8)(h:L.length<=300):lOk (ee L.length++bG L)=true:=by
 have h1:=qT L.length (by omega);have h2:=mM L (by omega);unfold lOk at h1 h2 ⊢;simp only[a0n,a0y]at h1 h2 ⊢;rw[ny,h1.1,h2.1,a0m,jX];refine⟨rfl,?_⟩;have:(ee L.length).length=5:=rfl;omega
theorem xY(L:List UInt8)(h:L.length<=300):cF (ee L.length++bG L)=eZ L:=by
 rw[←dY (ub L h),uc L h];unfold eZ;rw[a0d h]
theorem sx(L:List UInt8)(h:L.length<=300):(eZ L).length=L.length+5:=by
 unfold eZ;rw[a0d h,a0m,aT];omega
theorem wo(L:List UInt8)(h:L.length<=300):du ⟨(eZ L).toArray⟩=some (L,8*(L.length+5)):=by
 have hP:=ub L h;obtain⟨b1,b2,b3⟩:=nB hP;have hl:=sx L h;rw[←xY L h]at hl ⊢;rw[hl]at b2;have hb:bN (ee L.length++bG L)=40+8*L.length:=by
  rw[dw,DW];rfl
 have:=qR (T:=L) hP (by omega) (by
  rw[hl,←b1,hb];refine na (k:=0) b3 (by omega) ?_;unfold fV;rw[a0d rfl];have h3:=Dq (R:=[]) (V:=(bi (ee L.length++bG L)).1) (sz:=8*(L.length+5)) (p:=0+1+2) (c:=5) (L:=L) (l:=[]) (by decide) (by rw[a1e];exact b3.2.2) (by omega) (by simpa using h);rw[h3];simp only[a09])
 rw[this,hl]
theorem GZ:(List.range 288).all (fun i=>decide (0<(bV 288).getD i 0)&&decide ((bV 288).getD i 0<=9))=true:=by decide +kernel
theorem Ej:(List.range 32).all (fun i=>decide (fW.getD i 0=5))=true:=by decide +kernel
theorem yY{i:Nat}(h:i<288):0<(bV 288).getD i 0/\(bV 288).getD i 0<=9:=by
 have:=a1j.1 GZ i (List.mem_range.2 h);simpa using this
theorem Ay{i:Nat}(h:i<32):fW.getD i 0=5:=by
 have:=a1j.1 Ej i (List.mem_range.2 h);simpa using this
theorem EK {t : Tk} (ht : okT t = true) : zb (bV 288) fW t := by
  have := iu ht
  unfold fj at this
  unfold zb
  split
  · rename_i hB
    rw [a0d hB] at this
    have l1 : (bV 288).length = 288 := by decide +kernel
    exact (yY (by omega)).1
  · rename_i hB
    rw [a0e hB] at this
    have l1 : (bV 288).length = 288 := by decide +kernel
    have l2 : fW.length = 32 := by decide +kernel
    refine ⟨(yY (by omega)).1, ?_⟩
    rw [Ay (by omega)]
    omega
theorem Eo:(List.range 61).all (fun y=>decide (y<3) || decide (((bV 288).getD (257+fnd 3 4 y 27) 0).toNat+(stF 3 4 (fnd 3 4 y 27)).2+11<=9*y))=true:=by decide +kernel
theorem Em:(List.range 251).all (fun y=>decide (y<1) || decide ((stF 1 2 (fnd 1 2 y 29)).2<=6))=true:=by decide +kernel
theorem En{t:Tk}(ht:okT t=true):bN (cx (bV 288) fW t)<=9*(if isB t then 1 else t.2.1.toNat):=by
 obtain⟨y,lo,ba⟩:=t;unfold cx;by_cases hB:isB (y,lo,ba)=true
 ·
  rw[a0d hB,a0d hB,eH,ja,kS];have hb:0<=y/\y<=255:=by unfold isB inB at hB;simp only[a0n,a0y]at hB;omega
  have:=yY (i:=y.toNat) (by omega);show((bV 288).getD y.toNat 0).toNat+0<=9*1;omega
 ·
  rw[a0e hB,a0e hB];have hK:isK (y,lo,ba)=true:=by unfold okT at ht;simpa[hB]using ht
  have hb:y=0/\3<=lo/\lo<=60/\1<=ba/\ba<=250:=by unfold isK inB at hK;simp only[a0n,a0y]at hK;omega
  obtain⟨rfl,b1,b2,b3,b4⟩:=hb;obtain⟨x,rfl⟩:=a0r (show 0<=lo by omega);obtain⟨z,rfl⟩:=a0r (show 0<=ba by omega);have f1:=a1j.1 Eo x (List.mem_range.2 (by omega));have f2:=a1j.1 Em z (List.mem_range.2 (by omega));simp only[a1f,a0y]at f1 f2;have g:=Ay (i:=fnd 1 2 z 29) (by have:=er 1 2 z 29;omega);simp only[eH,ja,kS,a0p];rw[g];omega
theorem G0{L:List UInt8} : ∀(n p:Nat),L.length-p<=n->bN ((bm L p).flatMap (cx (bV 288) fW))<=9*(L.length-p):=by
 intro n;induction n with
 | zero=>
  intro p h;rw[d9 (by omega)];exact a0l _
 | succ n ih=>
  intro p h;by_cases hp:p<L.length
  ·
   have hok:=un L L.length p (by omega);rw[fC hp]at hok ⊢;have h1:=En (hok (dO L p) (by simp));have h3:=fS L p;have h4:=mn hp;have h5:=ih (p+fL L p) (by omega);have h6:(if isB (dO L p)then 1 else(dO L p).2.1.toNat)=fL L p:=by
    unfold dO fL;by_cases hc:(aX L p (min p 250)).1<3
    ·
     have hB:isB ((((L.getD p 0).toNat:Nat):Int),0,0)=true:=by
      have:=(L.getD p 0).toNat_lt;generalize (L.getD p 0).toNat=y at *
      unfold isB inB;simp;omega
     rw[a0d hc,a0d hc,hB];rfl
    ·
     have hB:isB (0,((aX L p (min p 250)).1:Int),((aX L p (min p 250)).2:Int))=false:=by
      unfold isB;simp;omega
     rw[a0e hc,a0e hc,hB];simp
   rw[h6]at h1;rw[a03,dw];omega
  · rw[d9 hp];exact a0l _
theorem ti(s:ByteArray):bN (gg s)=1+2+bN ((bm s.data.toList 0).flatMap (cx (bV 288) fW))+7:=by
 unfold gg;rw[dw,dw];have e1:bN [((1:Int),(1:Int)),((1:Int),(2:Int))]=3:=rfl;have e2:bN [pcM (bV 288) 256]=7:=by
  rw[eH,ja,kS];decide +kernel
 rw[e1,e2];omega
theorem rn(s:ByteArray)(h:s.size<=300):(dJ s).length<=340/\2<=(dJ s).length:=by
 have hP:=nM s h;obtain⟨b1,b2,b3⟩:=nB hP;have e:=ti s;have e2:=G0 (L:=s.data.toList) s.data.toList.length 0 (by omega);have e3:s.data.toList.length=s.size:=by simp
 have hl:(dJ s).length=((bi (gg s)).2+7)/8:=by unfold dJ cF;exact aT _ _
 rw[hl,←b1,e];omega
theorem wn(s:ByteArray)(h:s.size<=300):du ⟨(dJ s).toArray⟩=some (s.data.toList,8*(dJ s).length):=by
 have hP:=nM s h;obtain⟨b1,b2,b3⟩:=nB hP;have hl:=(rn s h).1;have e:=ti s;have e3:s.data.toList.length=s.size:=by simp
 have hE:(bV 288).getD 256 0=7:=by decide +kernel
 refine qR hP (show(dJ s).length<=700 by omega) ?_;have b2':bN (gg s)<=8*(dJ s).length:=b2;show ia (bi (gg s)).1 (8*(dJ s).length) 0 []=some (s.data.toList,(bi (gg s)).2);refine na (k:=1) b3 (by omega) ?_;unfold fV yX;rw[a0e (by decide),a0d rfl];have ht:=Bo (L:=bV 288) (D:=fW) gO lr (V:=(bi (gg s)).1) (sz:=8*(dJ s).length) (by rw[hE];omega) (l:=[]) (bm s.data.toList 0) (0+1+2) [] s.data.toList (fun t ht=>⟨ef s t ht,EK (ef s t ht)⟩) b3.2.2 (by rw[hE];simp only[Int.reduceToNat];omega) (sD (by omega));rw[hE]at ht;simp only[Int.reduceToNat]at ht;have ht':kw (bi (gg s)).1 (8*(dJ s).length) (bV 288) (List.replicate 32 5) (0+1+2) []=_:=ht;rw[ht',←b1,e]
theorem I1(s:ByteArray)(h:s.size<=300):du (byS s)=some (s.data.toList,8*(byS s).size)/\(byS s).size=s.size+5:=by
 have hl:s.data.toList.length=s.size:=fy s;have h1:=wo s.data.toList (by omega);have h2:=sx s.data.toList (by omega);unfold byS;rw[kR,h1,h2,hl];exact⟨rfl,rfl⟩
theorem IZ(s:ByteArray)(h:s.size<=300):du (byF s)=some (s.data.toList,8*(byF s).size)/\2<=(byF s).size/\(byF s).size<=340:=by
 have h1:=wn s h;have h2:=rn s h;unfold byF j7;rw[a0d h,kR,h1];exact⟨rfl,h2.2,h2.1⟩
theorem uZ{a r:List Int}(hl:r.length=a.length)(h:∀j,j<a.length->r.getD j 0=a.getD j 0):r=a:=by
 apply a2a hl;intro j h1 h2;have:=h j h2;simpa[List.getD,h1,h2]using this
theorem Je{V:Nat}{a:List Int}{l:List (Int×Int)} : ∀(is:List Nat) (p:Nat) (r:List Int),Std V p (is.map (fun i=>(a.getD i 0,(3:Int)))++l)->(∀i∈is,0<=a.getD i 0/\i<r.length)->∀j,(lbV V is p r).getD j 0=if j∈is then a.getD j 0 else r.getD j 0:=by
 intro is;induction is with
 | nil=>intro p r _ _ j;simp[lbV]
 | cons i is ih=>
  intro p r h hi j;rw[a0C,a1n]at h;have h1:V/2 ^ p%2 ^ 3=(a.getD i 0).toNat:=h.1;have h2:=h.2;obtain⟨i1,i2⟩:=hi i (by simp);simp only[lbV];rw[h1,a2X i1,ih (p+3) _ h2 (fun k hk=>by rw[a1J];exact hi k (by simp[hk])) j];by_cases hj:j∈is
  · rw[a0d hj,a0d (by simp[hj])]
  ·
   rw[a0e hj];by_cases e:j=i
   · subst e;rw[a0d (by simp)];simp[List.getD,i2]
   · rw[a0e (by simp[hj,e])];simp[List.getD,Ne.symm e]
theorem Jf{V p:Nat}{a:List Int}{l:List (Int×Int)}(ha:a.length=19)(h0:∀i,i<19->0<=a.getD i 0)(h:Std V p (bF.map (fun i=>(a.getD i 0,(3:Int)))++l)):lbV V bF p (List.replicate 19 0)=a:=by
 have h19:∀i∈bF,i<19:=by decide
 have hall:∀i,i<19->i∈bF:=by decide
 have hg:=Je (a:=a) bF p (List.replicate 19 0) h (fun i hi=>⟨h0 i (h19 i hi),by rw[a0A];exact h19 i hi⟩);have hl:(lbV V bF p (List.replicate 19 0)).length=19:=by rw[Hw,a0A]
 exact uZ (by rw[hl,ha]) (fun j hj=>by rw[hg j,a0d (hall j (by omega))])
theorem Jh{B:List Int}(hok:aw B=true){V sz:Nat}{l:List (Int×Int)} : ∀(A R:List Int) (p:Nat),(∀x∈A,0<=x/\x<=15/\0<B.getD x.toNat 0)->Std V p (A.map (fun x=>pcM B x.toNat)++l)->p+bN (A.map (fun x=>pcM B x.toNat))<=sz->lnG V sz B (R.length+A.length) p R=some (R++A,p+bN (A.map (fun x=>pcM B x.toNat))):=by
 intro A;induction A with
 | nil=>
  intro R p _ _ hs;rw[a1C,ja,a1p]at hs;rw[xd hs (by simp),a0d (by simp),a1e,a1C,ja,a1p]
 | cons x A ih=>
  intro R p hA h hs;rw[a0C,eH,kS]at hs ⊢;rw[a0C,a1n]at h;obtain⟨a1,a2,a3⟩:=hA x (by simp);rw[a0E,w8 (by omega) (by omega),nG hok a3 h (by omega)];simp only[a0f];have e:gB V sz R ((x.toNat:Nat):Int) (p+(B.getD x.toNat 0).toNat)=some (R++[x],p+(B.getD x.toNat 0).toNat):=by
   rw[a2X a1];unfold gB;rw[a0e (by omega),a0e (by omega),a0e (by omega)]
  rw[e];simp only[a0f];have:=ih (R++[x]) (p+(B.getD x.toNat 0).toNat) (fun y hy=>hA y (by simp[hy])) h.2 (by omega);rw[a0m,a06]at this;rw[show R.length+(A.length+1)=R.length+1+A.length by omega,this];simp only[a0S,List.singleton_append,a0j,a0Y,a1W];omega
theorem oC(a:List Int)(is:List Nat):bN (is.map (fun i=>(a.getD i 0,(3:Int))))=3*is.length:=by
 induction is with
 | nil=>rfl
 | cons i is ih=>
  rw[a0C,eH,ih,a0E];simp only[Int.reduceToNat];omega
theorem ES{V sz p:Nat}{L D:List Int}{l:List (Int×Int)}(hL:aw L=true)(hD:aw D=true)(l0:257<=L.length)(l1:L.length<=286)(d0:1<=D.length)(d1:D.length<=30)(h:Std V p (cX L D++l))(hs:p+bN (cX L D)<=sz) :
  wW V sz p=some (L.length,L++D,p+bN (cX L D)):=by
 have hA:∀x∈L++D,0<=x/\x<=15:=by
  intro x hx;rcases a0X.1 hx with h|h
  · exact iS hL x h
  · exact iS hD x h
 have hAl:(L++D).length=L.length+D.length:=a0m;obtain⟨k1,k2,k3⟩:=rA (L++D) (by omega) (by omega) hA;have hhas:=Cr (L++D) (by omega) (by omega) hA;have e:cX L D++l=((L.length:Int)-257,(5:Int)) :: ((D.length:Int)-1,(5:Int)) :: ((15:Int),(4:Int)) :: (bF.map (fun i=>((aP (L++D)).getD i 0,(3:Int)))++((L++D).map (fun x=>pcM (aP (L++D)) x.toNat)++l)):=by
  unfold cX;simp only[a1n,a09,a0S]
 have eb:bN (cX L D)=5+5+4+3*19+bN ((L++D).map (fun x=>pcM (aP (L++D)) x.toNat)):=by
  unfold cX;rw[dw,dw,oC];have e1:bN [((L.length:Int)-257,(5:Int)),((D.length:Int)-1,(5:Int)),((15:Int),(4:Int))]=14:=rfl;have e2:bF.length=19:=rfl;rw[e1,e2];omega
 rw[e]at h;rw[eb]at hs ⊢;generalize hB:aP (L++D)=B at *
 have x1:V/2 ^ p%2 ^ 5=L.length-257:=by have:=h.1;simp only[Int.reduceToNat]at this;omega
 have h2:Std V (p+5) _:=h.2;have x2:V/2 ^ (p+5)%2 ^ 5=D.length-1:=by have:=h2.1;simp only[Int.reduceToNat]at this;omega
 have h3:Std V (p+5+5) _:=h2.2;have x3:V/2 ^ (p+5+5)%2 ^ 4=15:=by have:=h3.1;simp only[Int.reduceToNat]at this;exact this
 have h4:Std V (p+5+5+4) _:=h3.2;have hlb:=Jf (a:=B) k1 (fun i hi=>(k3 i hi).1) h4;have h5:=(ni.1 h4).2;rw[oC,show bF.length=19 from rfl]at h5;have hlb':lbV V (bF.take (15+4)) (p+5+5+4) (List.replicate 19 0)=B:=by
  rw[show bF.take (15+4)=bF from rfl];exact hlb
 rw[ER (by omega) x1 x2 x3 hlb',a0d ⟨by omega,k2,by omega,by omega⟩];have hln:=Jh k2 (sz:=sz) (L++D) [] (p+5+5+4+3*(15+4)) (fun x hx=>⟨(hA x hx).1,(hA x hx).2,hhas x hx⟩) h5 (by omega);rw[a01,a0J,hAl,a09]at hln;rw[show L.length-257+257+(D.length-1+1)=L.length+D.length by omega,show L.length-257+257=L.length by omega,hln];simp only[a0f];rw[List.take_left',List.drop_left',a0d ⟨hL,hD⟩]
 · simp only[a0j,a0Y,a1W];omega
 · rfl
 · rfl
theorem FB(T:List Tk)(hT:T.length<=300)(hok:∀t∈T,okT t=true)(t:Tk)(ht:t∈T):zb (bC T) (ci T) t:=by
 obtain⟨h1,h2⟩:=AZ T hT hok t ht;unfold gQ at h1;unfold dV at h2;unfold zb
 split
 · rename_i h;rw[a0d h]at h1;exact h1
 · rename_i h;rw[a0e h]at h1 h2;exact⟨h1,h2 _ (by simp)⟩
theorem tR(T:List Tk):bN (hH T)=1+2+bN (cX (bC T) (ci T))+bN (T.flatMap (cx (bC T) (ci T)))+((bC T).getD 256 0).toNat:=by
 unfold hH;rw[dw,dw,dw,eH (pcM (bC T) 256),ja,kS];have e1:bN [((1:Int),(1:Int)),((2:Int),(2:Int))]=3:=rfl;rw[e1];omega
theorem Fz(s:ByteArray)(h:s.size<=300):9<=(kO s).length:=by
 have hT:=gU s h;have hP:=qx (bm s.data.toList 0) hT (ef s);obtain⟨b1,b2,b3⟩:=nB hP;have e:=tR (bm s.data.toList 0);have hl:(kO s).length=((bi (hH (bm s.data.toList 0))).2+7)/8:=by unfold kO cF;exact aT _ _
 have eb:71<=bN (cX (bC (bm s.data.toList 0)) (ci (bm s.data.toList 0))):=by
  unfold cX;rw[dw,dw,oC];have e2:bF.length=19:=rfl;rw[e2,eH,eH,eH];simp only[Int.reduceToNat];omega
 rw[hl,←b1,e];omega
theorem Cb(s:ByteArray)(h:s.size<=300)(hx:(kO s).length<=700):du ⟨(kO s).toArray⟩=some (s.data.toList,8*(kO s).length):=by
 have hT:=gU s h;have hok:=ef s;have e3:s.data.toList.length=s.size:=by simp
 have hF:=sD (L:=s.data.toList) (by omega);unfold kO at hx ⊢;generalize bm s.data.toList 0=T at *
 have hP:=qx T hT hok;obtain⟨b1,b2,b3⟩:=nB hP;have e:=tR T;refine qR hP hx ?_;generalize 8*(cF (hH T)).length=sz at *
 generalize (bi (hH T)).1=V at *
 obtain⟨l0,l1⟩:=iE T hT;obtain⟨d0,d1⟩:=jM T hT;have hE:=xE T hT 256 (.inl rfl) (by omega);refine na (k:=2) b3 (by omega) ?_;have s3:Std V (0+1+2) (cX (bC T) (ci T)++(T.flatMap (cx (bC T) (ci T))++[pcM (bC T) 256])):=b3.2.2;unfold fV;rw[a0e (by decide),a0e (by decide),a0d rfl,C8,ES (fx T hT) (gw T hT) l0 l1 d0 d1 s3 (by omega)];simp only[a0f];rw[List.take_left',List.drop_left']
 · have s4:=(ni.1 s3).2;rw[Bo (fx T hT) (gw T hT) hE (l:=[]) T _ [] s.data.toList (fun t ht=>⟨hok t ht,FB T hT hok t ht⟩) s4 (by omega) hF,←b1,e]
 · rfl
 · rfl
theorem I0(s:ByteArray)(h:s.size<=300):((byO s).size<=700->du (byO s)=some (s.data.toList,8*(byO s).size))/\2<=(byO s).size:=by
 have h2:=Fz s h;unfold byO km;rw[a0d h,kR];exact⟨fun hx=>Cb s h hx,by omega⟩
theorem yZ(s:ByteArray)(h:s.size<=300):du (bW s)=some (s.data.toList,8*(bW s).size)/\(bW s).size<=s.size+5/\2<=(bW s).size/\(bW s).size<=(byS s).size/\(bW s).size<=(byF s).size/\(bW s).size<=(byO s).size/\(bW s=byS s∨bW s=byF s∨bW s=byO s):=by
 obtain⟨a1,a2⟩:=I1 s h;obtain⟨b1,b2,b3⟩:=IZ s h;obtain⟨c1,c2⟩:=I0 s h;unfold bW;by_cases e1:(byF s).size<(byS s).size
 ·
  rw[eE e1];by_cases e2:(byO s).size<(byF s).size
  · rw[eE e2];exact⟨c1 (by omega),by omega,c2,by omega,by omega,a0a _,.inr (.inr rfl)⟩
  · rw[fI e2];exact⟨b1,by omega,b2,by omega,a0a _,by omega,.inr (.inl rfl)⟩
 ·
  rw[fI e1];by_cases e2:(byO s).size<(byS s).size
  · rw[eE e2];exact⟨c1 (by omega),by omega,c2,by omega,by omega,a0a _,.inr (.inr rfl)⟩
  · rw[fI e2];exact⟨a1,by omega,by omega,a0a _,by omega,by omega,.inl rfl⟩
end Go.Proofs.YtbacpebljannfaaGreatDoor
