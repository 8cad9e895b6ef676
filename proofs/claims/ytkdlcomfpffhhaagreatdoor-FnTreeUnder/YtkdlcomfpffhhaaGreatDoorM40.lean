/- Of what the proof is made: 5 texts, one behind the other. -/
import Derived.Test.YtkdlcomfpffhhaaGreatDoorM37
import Derived.Test.YtkdlcomfpffhhaaGreatDoorM25
import Derived.Test.YtkdlcomfpffhhaaGreatDoorM19
import Derived.Test.YtkdlcomfpffhhaaGreatDoorM31
import Derived.Test.YtkdlcomfpffhhaaGreatDoorM36
import Derived.Test.YtkdlcomfpffhhaaGreatDoorM38
set_option linter.unusedSimpArgs false
set_option linter.unusedVariables false
namespace Go.Proofs.YtkdlcomfpffhhaaGreatDoor
open Go.RowKit Corb
theorem jM(l:List UInt8):(⟨l.toArray⟩:ByteArray).size=l.length:=by simp[ByteArray.size]
theorem Ck{V sz:Nat}{l:List (Int×Int)} : ∀(L:List UInt8) (p:Nat) (R:List UInt8),Std V p (bi L++l)->p+8*L.length<=sz->R.length+L.length<=300->gP V sz L.length p R=some (R++L,p+8*L.length):=by
 intro L;induction L with
 | nil=>intro p R _ _ _;simp[gP]
 | cons b L ih=>
  intro p R h hs hR;rw[a0B]at hs hR ⊢;have e:bi (b :: L)++l=(((b.toNat:Nat):Int),(8:Int)) :: (bi L++l):=rfl;rw[e]at h;have h1:=oy (sz:=sz) h (by show p+8<=sz;omega);simp only[a0r]at h1;have h1':rdN V sz p 8=some (b.toNat,p+8):=h1;have hb:=b.toNat_lt;simp only[gP];rw[h1'];simp only[a0g];rw[Ch R b.toNat hb,a0d (by omega)];simp only[a0g];rw[vB,ih (p+8) (R++[b]) h.2 (by omega) (by rw[a0l,a1E];omega)];simp only[a0U,List.singleton_append,a0j,a0O,a1v];omega
theorem Ei{V sz p c:Nat}{L R:List UInt8}{l:List (Int×Int)}(hc:(8-p%8)%8=c)(h:Std V p (((0:Int),(c:Int)) :: ((L.length:Int),(16:Int)) :: (((65535-L.length:Nat):Int),(16:Int)) :: (bi L++l)))(hs:p+c+32+8*L.length<=sz)(hR:R.length+L.length<=300) :
  hH V sz p R=some (R++L,p+c+32+8*L.length):=by
 have h0:=h.1;have h1:=h.2;have h2:=h1.2;have h3:=h2.2;simp only[a0r,Int.toNat_zero]at h0 h1 h2 h3;unfold hH iS;rw[hc,a0d h0];simp only[a0g];have r1:rdN V sz (p+c) 16=some (L.length,p+c+16):=oy (sz:=sz) h1 (by show p+c+16<=sz;omega);have r2:rdN V sz (p+c+16) 16=some (65535-L.length,p+c+16+16):=oy (sz:=sz) h2 (by show p+c+16+16<=sz;omega);rw[r1];simp only[a0g];rw[r2];simp only[a0g,a0Z];have h3':Std V (p+c+16+16) (bi L++l):=h3;rw[Ck L _ R h3' (by omega) hR]
theorem mg{V sz p k:Nat}{T:List UInt8}{r:List UInt8×Nat}{l:List (Int×Int)}(h:Std V p (((1:Int),(1:Int)) :: ((k:Int),(2:Int)) :: l))(hs:p+1+2<=sz)(hk:fq V sz k (p+1+2) T=some r):ge V sz p T=some r:=by
 have r1:rdN V sz p 1=some (1,p+1):=oy (sz:=sz) h (by show p+1<=sz;omega);have h2:=h.2;have r2:rdN V sz (p+1) 2=some (k,p+1+2):=by
  have:=oy (sz:=sz) h2 (by show p+1+2<=sz;omega);simpa using this
 rw[oZ,r1];simp only[a0g];rw[r2];simp only[a0g];rw[hk];rfl
theorem Ik{V M:Nat}(h:V<2 ^ M):iS V M=some (M+(8-M%8)%8):=by
 unfold iS;rw[a10 h,Nat.zero_mod,a0d rfl]
theorem qo{P:List (Int×Int)}{T:List UInt8}(hP:lOk P=true)(hs:(bR P).length<=700)(hp:ge (aT P).1 (8*(bR P).length) 0 []=some (T,(aT P).2)):cG ⟨(bR P).toArray⟩=some (T,8*(bR P).length):=by
 have hl:(bR P).length=((aT P).2+7)/8:=by unfold bR;exact az _ _
 have hv:=I9 hP;rw[dt hP]at hv;have hlt:(aT P).1<2 ^ (aT P).2:=vn P (by unfold lOk at hP;simp only[a0i]at hP;exact hP.1);unfold cG jz;rw[a0d (by rw[jM];exact hs)];have e1:au ⟨(bR P).toArray⟩=(aT P).1:=by unfold au;simpa using hv
 have e2:(⟨(bR P).toArray⟩:ByteArray).size=(bR P).length:=jM _;rw[e1,e2,hp];simp only[a0g];rw[Ik hlt];simp only[a0g,a0j,a0O,a1v];rw[hl];omega
theorem mB{P:List (Int×Int)}(hP:lOk P=true):bN P=(aT P).2/\bN P<=8*(bR P).length/\Std (aT P).1 0 P:=by
 have h:aM P=true:=by unfold lOk at hP;simp only[a0i]at hP;exact hP.1
 have h1:=Ej h;have hl:(bR P).length=((aT P).2+7)/8:=by unfold bR;exact az _ _
 have h2:=KR 0 h;rw[Nat.zero_mul,a1e]at h2;refine⟨h1,?_,h2⟩;unfold bN;rw[h1,hl];omega
theorem Fa(L:List UInt8):bN (bi L)=8*L.length:=by
 induction L with
 | nil=>rfl
 | cons b L ih=>
  have e:bi (b :: L)=(((b.toNat:Nat):Int),(8:Int)) :: bi L:=rfl;rw[e,dO,ih,a0B];simp only[Int.reduceToNat];omega
theorem tH(L:List UInt8)(h:L.length<=300):lOk (dy L.length++bi L)=true:=by
 have h1:=qv L.length (by omega);have h2:=lT L (by omega);unfold lOk at h1 h2 ⊢;simp only[a0i,a0q]at h1 h2 ⊢;rw[mz,h1.1,h2.1,a0l,i7];refine⟨rfl,?_⟩;have:(dy L.length).length=5:=rfl;omega
theorem xV(L:List UInt8)(h:L.length<=300):bR (dy L.length++bi L)=eu L:=by
 rw[←dt (tH L h),tI L h];unfold eu;rw[a0d h]
theorem rL(L:List UInt8)(h:L.length<=300):(eu L).length=L.length+5:=by
 unfold eu;rw[a0d h,a0l,az];omega
theorem wg(L:List UInt8)(h:L.length<=300):cG ⟨(eu L).toArray⟩=some (L,8*(L.length+5)):=by
 have hP:=tH L h;obtain⟨b1,b2,b3⟩:=mB hP;have hl:=rL L h;rw[←xV L h]at hl ⊢;rw[hl]at b2;have hb:bN (dy L.length++bi L)=40+8*L.length:=by
  rw[cJ,Fa];rfl
 have:=qo (T:=L) hP (by omega) (by
  rw[hl,←b1,hb];refine mg (k:=0) b3 (by omega) ?_;unfold fq;rw[a0d rfl];have h3:=Ei (R:=[]) (V:=(aT (dy L.length++bi L)).1) (sz:=8*(L.length+5)) (p:=0+1+2) (c:=5) (L:=L) (l:=[]) (by decide) (by rw[a1D];exact b3.2.2) (by omega) (by simpa using h);rw[h3];simp only[a04])
 rw[this,hl]
theorem JM:(List.range 288).all (fun i=>decide (0<(dj 288).getD i 0)&&decide ((dj 288).getD i 0<=9))=true:=by decide +kernel
theorem FO:(List.range 32).all (fun i=>decide (im.getD i 0=5))=true:=by decide +kernel
theorem zh{i:Nat}(h:i<288):0<(dj 288).getD i 0/\(dj 288).getD i 0<=9:=by
 have:=a0R.1 JM i (List.mem_range.2 h);simpa using this
theorem AX{i:Nat}(h:i<32):im.getD i 0=5:=by
 have:=a0R.1 FO i (List.mem_range.2 h);simpa using this
theorem Gj{t:Tk}(ht:okT t=true):zq (dj 288) im t:=by
 have:=lk ht;unfold fU at this;unfold zq
 split
 ·
  rename_i hB;rw[a0d hB]at this;have l1:(dj 288).length=288:=by decide +kernel
  exact(zh (by omega)).1
 ·
  rename_i hB;rw[a0e hB]at this;have l1:(dj 288).length=288:=by decide +kernel
  have l2:im.length=32:=by decide +kernel
  refine⟨(zh (by omega)).1,?_⟩;rw[AX (by omega)];omega
theorem FU:(List.range 61).all (fun y=>decide (y<3) || decide (((dj 288).getD (257+fnd 3 4 y 27) 0).toNat+(stF 3 4 (fnd 3 4 y 27)).2+11<=9*y))=true:=by decide +kernel
theorem FR:(List.range 251).all (fun y=>decide (y<1) || decide ((stF 1 2 (fnd 1 2 y 29)).2<=6))=true:=by decide +kernel
theorem FT{t:Tk}(ht:okT t=true):bN (fX (dj 288) im t)<=9*(if isB t then 1 else t.2.1.toNat):=by
 obtain⟨y,lo,ba⟩:=t;unfold fX;by_cases hB:isB (y,lo,ba)=true
 ·
  rw[a0d hB,a0d hB,dO,iy,jN];have hb:0<=y/\y<=255:=by unfold isB inB at hB;simp only[a0i,a0q]at hB;omega
  have:=zh (i:=y.toNat) (by omega);show((dj 288).getD y.toNat 0).toNat+0<=9*1;omega
 ·
  rw[a0e hB,a0e hB];have hK:isK (y,lo,ba)=true:=by unfold okT at ht;simpa[hB]using ht
  have hb:y=0/\3<=lo/\lo<=60/\1<=ba/\ba<=250:=by unfold isK inB at hK;simp only[a0i,a0q]at hK;omega
  obtain⟨rfl,b1,b2,b3,b4⟩:=hb;obtain⟨x,rfl⟩:=a0u (show 0<=lo by omega);obtain⟨z,rfl⟩:=a0u (show 0<=ba by omega);have f1:=a0R.1 FU x (List.mem_range.2 (by omega));have f2:=a0R.1 FR z (List.mem_range.2 (by omega));simp only[a1n,a0q]at f1 f2;have g:=AX (i:=fnd 1 2 z 29) (by have:=iE 1 2 z 29;omega);simp only[dO,iy,jN,a0r];rw[g];omega
theorem JN{L:List UInt8} : ∀(n p:Nat),L.length-p<=n->bN ((bh L p).flatMap (fX (dj 288) im))<=9*(L.length-p):=by
 intro n;induction n with
 | zero=>
  intro p h;rw[dR (by omega)];exact a0h _
 | succ n ih=>
  intro p h;by_cases hp:p<L.length
  ·
   have hok:=tS L L.length p (by omega);rw[ic hp]at hok ⊢;have h1:=FT (hok (fp L p) (by simp));have h3:=fm L p;have h4:=pQ hp;have h5:=ih (p+ik L p) (by omega);have h6:(if isB (fp L p)then 1 else(fp L p).2.1.toNat)=ik L p:=by
    unfold fp ik;by_cases hc:(bf L p (min p 250)).1<3
    ·
     have hB:isB ((((L.getD p 0).toNat:Nat):Int),0,0)=true:=by
      have:=(L.getD p 0).toNat_lt;generalize (L.getD p 0).toNat=y at *
      unfold isB inB;simp;omega
     rw[a0d hc,a0d hc,hB];rfl
    ·
     have hB:isB (0,((bf L p (min p 250)).1:Int),((bf L p (min p 250)).2:Int))=false:=by
      unfold isB;simp;omega
     rw[a0e hc,a0e hc,hB];simp
   rw[h6]at h1;rw[a0W,cJ];omega
  · rw[dR hp];exact a0h _
theorem sS(s:ByteArray):bN (gQ s)=1+2+bN ((bh s.data.toList 0).flatMap (fX (dj 288) im))+7:=by
 unfold gQ;rw[cJ,cJ];have e1:bN [((1:Int),(1:Int)),((1:Int),(2:Int))]=3:=rfl;have e2:bN [pcM (dj 288) 256]=7:=by
  rw[dO,iy,jN];decide +kernel
 rw[e1,e2];omega
theorem qL(s:ByteArray)(h:s.size<=300):(dW s).length<=340/\2<=(dW s).length:=by
 have hP:=mN s h;obtain⟨b1,b2,b3⟩:=mB hP;have e:=sS s;have e2:=JN (L:=s.data.toList) s.data.toList.length 0 (by omega);have e3:s.data.toList.length=s.size:=by simp
 have hl:(dW s).length=((aT (gQ s)).2+7)/8:=by unfold dW bR;exact az _ _
 rw[hl,←b1,e];omega
theorem we(s:ByteArray)(h:s.size<=300):cG ⟨(dW s).toArray⟩=some (s.data.toList,8*(dW s).length):=by
 have hP:=mN s h;obtain⟨b1,b2,b3⟩:=mB hP;have hl:=(qL s h).1;have e:=sS s;have e3:s.data.toList.length=s.size:=by simp
 have hE:(dj 288).getD 256 0=7:=by decide +kernel
 refine qo hP (show(dW s).length<=700 by omega) ?_;have b2':bN (gQ s)<=8*(dW s).length:=b2;show ge (aT (gQ s)).1 (8*(dW s).length) 0 []=some (s.data.toList,(aT (gQ s)).2);refine mg (k:=1) b3 (by omega) ?_;unfold fq zg;rw[a0e (by decide),a0d rfl];have ht:=BO (L:=dj 288) (D:=im) kg qK (V:=(aT (gQ s)).1) (sz:=8*(dW s).length) (by rw[hE];omega) (l:=[]) (bh s.data.toList 0) (0+1+2) [] s.data.toList (fun t ht=>⟨fQ s t ht,Gj (fQ s t ht)⟩) b3.2.2 (by rw[hE];simp only[Int.reduceToNat];omega) (rQ (by omega));rw[hE]at ht;simp only[Int.reduceToNat]at ht;have ht':ju (aT (gQ s)).1 (8*(dW s).length) (dj 288) (List.replicate 32 5) (0+1+2) []=_:=ht;rw[ht',←b1,e]
theorem Lt(s:ByteArray)(h:s.size<=300):cG (byS s)=some (s.data.toList,8*(byS s).size)/\(byS s).size=s.size+5:=by
 have hl:s.data.toList.length=s.size:=lz s;have h1:=wg s.data.toList (by omega);have h2:=rL s.data.toList (by omega);unfold byS;rw[jM,h1,h2,hl];exact⟨rfl,rfl⟩
theorem Lr(s:ByteArray)(h:s.size<=300):cG (byF s)=some (s.data.toList,8*(byF s).size)/\2<=(byF s).size/\(byF s).size<=340:=by
 have h1:=we s h;have h2:=qL s h;unfold byF jY;rw[a0d h,jM,h1];exact⟨rfl,h2.2,h2.1⟩
theorem uN{a r:List Int}(hl:r.length=a.length)(h:∀j,j<a.length->r.getD j 0=a.getD j 0):r=a:=by
 apply a3h hl;intro j h1 h2;have:=h j h2;simpa[List.getD,h1,h2]using this
theorem LF{V:Nat}{a:List Int}{l:List (Int×Int)} : ∀(is:List Nat) (p:Nat) (r:List Int),Std V p (is.map (fun i=>(a.getD i 0,(3:Int)))++l)->(∀i∈is,0<=a.getD i 0/\i<r.length)->∀j,(lbV V is p r).getD j 0=if j∈is then a.getD j 0 else r.getD j 0:=by
 intro is;induction is with
 | nil=>intro p r _ _ j;simp[lbV]
 | cons i is ih=>
  intro p r h hi j;rw[a0o,a1h]at h;have h1:V/2 ^ p%2 ^ 3=(a.getD i 0).toNat:=h.1;have h2:=h.2;obtain⟨i1,i2⟩:=hi i (by simp);simp only[lbV];rw[h1,a3K i1,ih (p+3) _ h2 (fun k hk=>by rw[a1H];exact hi k (by simp[hk])) j];by_cases hj:j∈is
  · rw[a0d hj,a0d (by simp[hj])]
  ·
   rw[a0e hj];by_cases e:j=i
   · subst e;rw[a0d (by simp)];simp[List.getD,i2]
   · rw[a0e (by simp[hj,e])];simp[List.getD,Ne.symm e]
theorem LG{V p:Nat}{a:List Int}{l:List (Int×Int)}(ha:a.length=19)(h0:∀i,i<19->0<=a.getD i 0)(h:Std V p (bv.map (fun i=>(a.getD i 0,(3:Int)))++l)):lbV V bv p (List.replicate 19 0)=a:=by
 have h19:∀i∈bv,i<19:=by decide
 have hall:∀i,i<19->i∈bv:=by decide
 have hg:=LF (a:=a) bv p (List.replicate 19 0) h (fun i hi=>⟨h0 i (h19 i hi),by rw[a0E];exact h19 i hi⟩);have hl:(lbV V bv p (List.replicate 19 0)).length=19:=by rw[J2,a0E]
 exact uN (by rw[hl,ha]) (fun j hj=>by rw[hg j,a0d (hall j (by omega))])
theorem LJ{B:List Int}(hok:ap B=true){V sz:Nat}{l:List (Int×Int)} : ∀(A R:List Int) (p:Nat),(∀x∈A,0<=x/\x<=15/\0<B.getD x.toNat 0)->Std V p (A.map (fun x=>pcM B x.toNat)++l)->p+bN (A.map (fun x=>pcM B x.toNat))<=sz->lnG V sz B (R.length+A.length) p R=some (R++A,p+bN (A.map (fun x=>pcM B x.toNat))):=by
 intro A;induction A with
 | nil=>
  intro R p _ _ hs;rw[a1S,iy,a1e]at hs;rw[wU hs (by simp),a0d (by simp),a1D,a1S,iy,a1e]
 | cons x A ih=>
  intro R p hA h hs;rw[a0o,dO,jN]at hs ⊢;rw[a0o,a1h]at h;obtain⟨a1,a2,a3⟩:=hA x (by simp);rw[a0B,wT (by omega) (by omega),mG hok a3 h (by omega)];simp only[a0g];have e:fR V sz R ((x.toNat:Nat):Int) (p+(B.getD x.toNat 0).toNat)=some (R++[x],p+(B.getD x.toNat 0).toNat):=by
   rw[a3K a1];unfold fR;rw[a0e (by omega),a0e (by omega),a0e (by omega)]
  rw[e];simp only[a0g];have:=ih (R++[x]) (p+(B.getD x.toNat 0).toNat) (fun y hy=>hA y (by simp[hy])) h.2 (by omega);rw[a0l,a1E]at this;rw[show R.length+(A.length+1)=R.length+1+A.length by omega,this];simp only[a0U,List.singleton_append,a0j,a0O,a1v];omega
theorem nH(a:List Int)(is:List Nat):bN (is.map (fun i=>(a.getD i 0,(3:Int))))=3*is.length:=by
 induction is with
 | nil=>rfl
 | cons i is ih=>
  rw[a0o,dO,ih,a0B];simp only[Int.reduceToNat];omega
theorem Gs{V sz p:Nat}{L D:List Int}{l:List (Int×Int)}(hL:ap L=true)(hD:ap D=true)(l0:257<=L.length)(l1:L.length<=286)(d0:1<=D.length)(d1:D.length<=30)(h:Std V p (dM L D++l))(hs:p+bN (dM L D)<=sz) :
  wP V sz p=some (L.length,L++D,p+bN (dM L D)):=by
 have hA:∀x∈L++D,0<=x/\x<=15:=by
  intro x hx;rcases a00.1 hx with h|h
  · exact ll hL x h
  · exact ll hD x h
 have hAl:(L++D).length=L.length+D.length:=a0l;obtain⟨k1,k2,k3⟩:=uL (L++D) (by omega) (by omega) hA;have hhas:=Do (L++D) (by omega) (by omega) hA;have e:dM L D++l=((L.length:Int)-257,(5:Int)) :: ((D.length:Int)-1,(5:Int)) :: ((15:Int),(4:Int)) :: (bv.map (fun i=>((bC (L++D)).getD i 0,(3:Int)))++((L++D).map (fun x=>pcM (bC (L++D)) x.toNat)++l)):=by
  unfold dM;simp only[a1h,a04,a0U]
 have eb:bN (dM L D)=5+5+4+3*19+bN ((L++D).map (fun x=>pcM (bC (L++D)) x.toNat)):=by
  unfold dM;rw[cJ,cJ,nH];have e1:bN [((L.length:Int)-257,(5:Int)),((D.length:Int)-1,(5:Int)),((15:Int),(4:Int))]=14:=rfl;have e2:bv.length=19:=rfl;rw[e1,e2];omega
 rw[e]at h;rw[eb]at hs ⊢;generalize hB:bC (L++D)=B at *
 have x1:V/2 ^ p%2 ^ 5=L.length-257:=by have:=h.1;simp only[Int.reduceToNat]at this;omega
 have h2:Std V (p+5) _:=h.2;have x2:V/2 ^ (p+5)%2 ^ 5=D.length-1:=by have:=h2.1;simp only[Int.reduceToNat]at this;omega
 have h3:Std V (p+5+5) _:=h2.2;have x3:V/2 ^ (p+5+5)%2 ^ 4=15:=by have:=h3.1;simp only[Int.reduceToNat]at this;exact this
 have h4:Std V (p+5+5+4) _:=h3.2;have hlb:=LG (a:=B) k1 (fun i hi=>(k3 i hi).1) h4;have h5:=(mq.1 h4).2;rw[nH,show bv.length=19 from rfl]at h5;have hlb':lbV V (bv.take (15+4)) (p+5+5+4) (List.replicate 19 0)=B:=by
  rw[show bv.take (15+4)=bv from rfl];exact hlb
 rw[Gr (by omega) x1 x2 x3 hlb',a0d ⟨by omega,k2,by omega,by omega⟩];have hln:=LJ k2 (sz:=sz) (L++D) [] (p+5+5+4+3*(15+4)) (fun x hx=>⟨(hA x hx).1,(hA x hx).2,hhas x hx⟩) h5 (by omega);rw[a1i,a0A,hAl,a04]at hln;rw[show L.length-257+257+(D.length-1+1)=L.length+D.length by omega,show L.length-257+257=L.length by omega,hln];simp only[a0g];rw[a13,a3N,a0d ⟨hL,hD⟩]
 · simp only[a0j,a0O,a1v];omega
 · rfl
 · rfl
theorem Hi(T:List Tk)(hT:T.length<=300)(hok:∀t∈T,okT t=true)(t:Tk)(ht:t∈T):zq (cj T) (dx T) t:=by
 obtain⟨h1,h2⟩:=BE T hT hok t ht;unfold ki at h1;unfold eT at h2;unfold zq
 split
 · rename_i h;rw[a0d h]at h1;exact h1
 · rename_i h;rw[a0e h]at h1 h2;exact⟨h1,h2 _ (by simp)⟩
theorem tt(T:List Tk):bN (jJ T)=1+2+bN (dM (cj T) (dx T))+bN (T.flatMap (fX (cj T) (dx T)))+((cj T).getD 256 0).toNat:=by
 unfold jJ;rw[cJ,cJ,cJ,dO (pcM (cj T) 256),iy,jN];have e1:bN [((1:Int),(1:Int)),((2:Int),(2:Int))]=3:=rfl;rw[e1];omega
theorem Hg(s:ByteArray)(h:s.size<=300):9<=(oo s).length:=by
 have hT:=kK s h;have hP:=pN (bh s.data.toList 0) hT (fQ s);obtain⟨b1,b2,b3⟩:=mB hP;have e:=tt (bh s.data.toList 0);have hl:(oo s).length=((aT (jJ (bh s.data.toList 0))).2+7)/8:=by unfold oo bR;exact az _ _
 have eb:71<=bN (dM (cj (bh s.data.toList 0)) (dx (bh s.data.toList 0))):=by
  unfold dM;rw[cJ,cJ,nH];have e2:bv.length=19:=rfl;rw[e2,dO,dO,dO];simp only[Int.reduceToNat];omega
 rw[hl,←b1,e];omega
theorem C4(s:ByteArray)(h:s.size<=300)(hx:(oo s).length<=700):cG ⟨(oo s).toArray⟩=some (s.data.toList,8*(oo s).length):=by
 have hT:=kK s h;have hok:=fQ s;have e3:s.data.toList.length=s.size:=by simp
 have hF:=rQ (L:=s.data.toList) (by omega);unfold oo at hx ⊢;generalize bh s.data.toList 0=T at *
 have hP:=pN T hT hok;obtain⟨b1,b2,b3⟩:=mB hP;have e:=tt T;refine qo hP hx ?_;generalize 8*(bR (jJ T)).length=sz at *
 generalize (aT (jJ T)).1=V at *
 obtain⟨l0,l1⟩:=ko T hT;obtain⟨d0,d1⟩:=nf T hT;have hE:=xx T hT 256 (.inl rfl) (by omega);refine mg (k:=2) b3 (by omega) ?_;have s3:Std V (0+1+2) (dM (cj T) (dx T)++(T.flatMap (fX (cj T) (dx T))++[pcM (cj T) 256])):=b3.2.2;unfold fq;rw[a0e (by decide),a0e (by decide),a0d rfl,DN,Gs (jl T hT) (lq T hT) l0 l1 d0 d1 s3 (by omega)];simp only[a0g];rw[a13,a3N]
 · have s4:=(mq.1 s3).2;rw[BO (jl T hT) (lq T hT) hE (l:=[]) T _ [] s.data.toList (fun t ht=>⟨hok t ht,Hi T hT hok t ht⟩) s4 (by omega) hF,←b1,e]
 · rfl
 · rfl
theorem Ls(s:ByteArray)(h:s.size<=300):((byO s).size<=700->cG (byO s)=some (s.data.toList,8*(byO s).size))/\2<=(byO s).size:=by
 have h2:=Hg s h;unfold byO kp;rw[a0d h,jM];exact⟨fun hx=>C4 s h hx,by omega⟩
theorem zj(s:ByteArray)(h:s.size<=300):cG (bU s)=some (s.data.toList,8*(bU s).size)/\(bU s).size<=s.size+5/\2<=(bU s).size/\(bU s).size<=(byS s).size/\(bU s).size<=(byF s).size/\(bU s).size<=(byO s).size/\(bU s=byS s∨bU s=byF s∨bU s=byO s):=by
 obtain⟨a1,a2⟩:=Lt s h;obtain⟨b1,b2,b3⟩:=Lr s h;obtain⟨c1,c2⟩:=Ls s h;unfold bU;by_cases e1:(byF s).size<(byS s).size
 ·
  rw[fG e1];by_cases e2:(byO s).size<(byF s).size
  · rw[fG e2];exact⟨c1 (by omega),by omega,c2,by omega,by omega,a0a _,.inr (.inr rfl)⟩
  · rw[gG e2];exact⟨b1,by omega,b2,by omega,a0a _,by omega,.inr (.inl rfl)⟩
 ·
  rw[gG e1];by_cases e2:(byO s).size<(byS s).size
  · rw[fG e2];exact⟨c1 (by omega),by omega,c2,by omega,by omega,a0a _,.inr (.inr rfl)⟩
  · rw[gG e2];exact⟨a1,by omega,by omega,a0a _,by omega,by omega,.inl rfl⟩
end Go.Proofs.YtkdlcomfpffhhaaGreatDoor
