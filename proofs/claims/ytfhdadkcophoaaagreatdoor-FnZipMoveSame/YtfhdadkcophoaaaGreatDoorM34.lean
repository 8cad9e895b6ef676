/- Of what the proof is made: 10 texts, one behind the other. -/
import Derived.Test.YtfhdadkcophoaaaGreatDoorM26
import Derived.Test.YtfhdadkcophoaaaGreatDoorM32
import Derived.Test.YtfhdadkcophoaaaGreatDoorM12
import Derived.Deep.RegionHeld3
import Derived.Deep.DeepCutAuto
import Derived.Test.YtfhdadkcophoaaaGreatDoorM20
import Derived.Test.YtfhdadkcophoaaaGreatDoorM21
import Derived.Test.YtfhdadkcophoaaaGreatDoorM3
import Derived.Test.YtfhdadkcophoaaaGreatDoorM13
import Derived.Test.YtfhdadkcophoaaaGreatDoorM27
import Derived.Test.YtfhdadkcophoaaaGreatDoorM25
import Derived.Test.YtfhdadkcophoaaaGreatDoorM14
import Derived.Test.YtfhdadkcophoaaaGreatDoorM9
import Derived.Test.YtfhdadkcophoaaaGreatDoorRb1
set_option linter.unusedSimpArgs false
set_option linter.unusedVariables false
set_option maxHeartbeats 12800000
namespace Go.Proofs.YtfhdadkcophoaaaGreatDoor
open Go.RowKit Corb
def gh(L D:List Int)(t:Tk):List (Int×Int):=
 if isB t then [pcM L t.1.toNat]
 else [pcM L (257+fnd 3 4 t.2.1.toNat 27),((t.2.1.toNat:Int)-((stF 3 4 (fnd 3 4 t.2.1.toNat 27)).1:Int),((stF 3 4 (fnd 3 4 t.2.1.toNat 27)).2:Nat)),pcM D (fnd 1 2 t.2.2.toNat 29),((t.2.2.toNat:Int)-((stF 1 2 (fnd 1 2 t.2.2.toNat 29)).1:Int),((stF 1 2 (fnd 1 2 t.2.2.toNat 29)).2:Nat))]
def qs(l:List Int):Prop:=∀k,k<l.length->(0<=l.getD k 0/\l.getD k 0<=15)/\(0<=(bF l 15).2.getD k 0/\(bF l 15).2.getD k 0<65536)
theorem It(y:Nat)(h0:3<=y)(h1:y<=60):pOk ((y:Int)-((stF 3 4 (fnd 3 4 y 27)).1:Int)) ((stF 3 4 (fnd 3 4 y 27)).2:Nat)=true:=by
 have:(List.range 61).all (fun y=>decide (y<3) || pOk ((y:Int)-((stF 3 4 (fnd 3 4 y 27)).1:Int)) ((stF 3 4 (fnd 3 4 y 27)).2:Nat))=true:=by decide +kernel
 have:=a0Y.1 this y (List.mem_range.2 (by omega));simp only[a1c,a0o]at this;rcases this with h|h
 · omega
 · exact h
theorem Is(z:Nat)(h0:1<=z)(h1:z<=250):pOk ((z:Int)-((stF 1 2 (fnd 1 2 z 29)).1:Int)) ((stF 1 2 (fnd 1 2 z 29)).2:Nat)=true:=by
 have:(List.range 251).all (fun z=>decide (z<1) || pOk ((z:Int)-((stF 1 2 (fnd 1 2 z 29)).1:Int)) ((stF 1 2 (fnd 1 2 z 29)).2:Nat))=true:=by decide +kernel
 have:=a0Y.1 this z (List.mem_range.2 (by omega));simp only[a1c,a0o]at this;rcases this with h|h
 · omega
 · exact h
theorem DL(p:Nat×Nat)(l:List (Int×Int))(h:∀x∈l,x.2<=16):(LS p l).2<=p.2+16*l.length:=by
 unfold LS ni;induction l generalizing p with
 | nil=>simp[gr]
 | cons x r ih=>
  have h1:=h x (by simp);have h2:=ih (p.1+x.1.toNat*2 ^ p.2,p.2+x.2.toNat) (fun y hy=>h y (by simp[hy]));simp only[a0p,gr,a0y]at *
  omega
theorem DZ(L D:List Int)(t:Tk)(gL:qs L)(gD:qs D)(hf:f9 L D t):(∀x∈gh L D t,x.2<=16)/\(gh L D t).length<=4:=by
 unfold gh;unfold f9 at hf
 split
 · rename_i h;rw[a0d h]at hf;refine⟨fun x hx=>?_,by simp⟩;simp only[a04,a2d,a1Y]at hx;subst hx;have:=(gL _ hf).1.2;show L.getD _ 0<=16;omega
 ·
  rename_i h;rw[a0e h]at hf;refine⟨fun x hx=>?_,by simp⟩;simp only[a04,a2d,a1Y]at hx;have s1:=vd (L:=3) (G:=4) (k:=fnd 3 4 t.2.1.toNat 27) (by omega) (by omega) (by omega) (by have:=iO 3 4 t.2.1.toNat 27;omega);have s2:=vd (L:=1) (G:=2) (k:=fnd 1 2 t.2.2.toNat 29) (by omega) (by omega) (by omega) (by have:=iO 1 2 t.2.2.toNat 29;omega);rcases hx with rfl|rfl|rfl|rfl
  · have:=(gL _ hf.1).1.2;show L.getD _ 0<=16;omega
  · show((_:Nat):Int)<=16;omega
  · have:=(gD _ hf.2).1.2;show D.getD _ 0<=16;omega
  · show((_:Nat):Int)<=16;omega
theorem AF{l:List Int}(h:am l=true){k:Nat}(hk:k<l.length):pOk ((bF l 15).2.getD k 0) (l.getD k 0)=true:=by
 have hb:=kp (eD h) hk;rw[Ci h hk];by_cases h1:1<=l.getD k 0
 · rw[a0d h1];have:=(sG h hk h1).1;exact aV.2 ⟨⟨hb.1,by omega⟩,by omega,by omega⟩
 ·
  rw[a0e h1];have e:l.getD k 0=0:=by omega
  rw[e];decide
theorem mT{l:List Int}(h:am l=true):qs l:=by
 intro k hk;have hb:=kp (eD h) hk;obtain⟨_,c0,c1⟩:=aV.1 (AF h hk);refine⟨hb,c0,?_⟩;have h1:p2 (l.getD k 0).toNat<=p2 15:=a0Q (by omega) (by omega);have h2:p2 15=32768:=by decide
 omega
theorem ly{l:List Int}(h:am l=true){k:Nat}(hk:k<l.length):pcS l k=pcM l k:=by
 unfold pcS pcM;rw[Az (AF h hk)]
theorem Hh{L D:List Int}(hL:am L=true)(hD:am D=true){t:Tk}(hf:f9 L D t):pcT L D t=gh L D t:=by
 unfold pcT gh;unfold f9 at hf
 split
 · rename_i h;rw[a0d h]at hf;rw[ly hL hf]
 · rename_i h;rw[a0e h]at hf;rw[ly hL hf.1,ly hD hf.2]
theorem oI{L D:List Int}(hL:am L=true)(hD:am D=true)(T:List Tk)(hf:∀t∈T,f9 L D t):T.flatMap (pcT L D)=T.flatMap (gh L D):=by
 induction T with
 | nil=>rfl
 | cons t r ih=>rw[a0V,a0V,Hh hL hD (hf t (by simp)),ih (fun x hx=>hf x (by simp[hx]))]
theorem Kt{L D:List Int}(gL:qs L)(gD:qs D){t:Tk}(hk:okT t=true)(hf:f9 L D t):aN (gh L D t)=true:=by
 unfold gh;unfold f9 at hf;unfold aN
 split
 · rename_i h;rw[a0d h]at hf;simp only[a1H,a2E,a2M];exact ov (gL _ hf).1
 ·
  rename_i h;rw[a0e h]at hf;have hK:isK t=true:=by unfold okT at hk;simp only[a1c]at hk;rcases hk with h'|h';exact absurd h' h;exact h'
  obtain⟨y0,y1,z0,z1⟩:=zu hK;simp only[a1H,a2E,a2M,a0j];exact⟨ov (gL _ hf.1).1,It _ (by omega) (by omega),ov (gD _ hf.2).1,Is _ (by omega) (by omega)⟩
theorem wg{L D:List Int}(gL:qs L)(gD:qs D)(T:List Tk)(h:∀t∈T,okT t=true/\f9 L D t):aN (T.flatMap (gh L D))=true/\(T.flatMap (gh L D)).length<=4*T.length:=by
 induction T with
 | nil=>exact⟨rfl,by simp⟩
 | cons t r ih=>
  obtain⟨h1,h2⟩:=ih (fun x hx=>h x (by simp[hx]));obtain⟨h3,h4⟩:=h t (by simp);have h5:=(DZ L D t gL gD h4).2;refine⟨?_,by simp only[a0V,a0i,a0y];omega⟩;have h6:=Kt gL gD h3 h4;unfold aN at *
  rw[a0V,a1G,h6,h1];rfl
theorem tM(L:List UInt8):∀n p,L.length-p<=n->∀t∈bi L p,okT t=true:=by
 intro n;induction n with
 | zero=>
  intro p hp t ht;rw[dP (by omega)]at ht;cases ht
 | succ n ih=>
  intro p hp t ht;by_cases h:p<L.length
  ·
   rw[ik h]at ht;rcases a04.1 ht with rfl|ht
   · exact pN L p
   · exact ih (p+iu L p) (by have:=(fq L p).1;omega) t ht
  · rw[dP h]at ht;cases ht
theorem fW(s:ByteArray):∀t∈bi s.data.toList 0,okT t=true:=tM s.data.toList s.data.toList.length 0 (by omega)
def iz:List Int:=List.replicate 32 5
theorem kw:am (di 288)=true:=by decide +kernel
theorem qK:am iz=true:=by decide +kernel
theorem lq{t:Tk}(_:okT t=true):f9 (di 288) iz t:=by
 unfold f9
 split
 · rename_i hB;have:=uJ hB;rw[dE];omega
 · have h1:=iO 3 4 t.2.1.toNat 27;have h2:=iO 1 2 t.2.2.toNat 29;rw[dE];exact⟨by omega,by show _<(List.replicate 32 (5:Int)).length;rw[a0A];omega⟩
def gX(s:ByteArray):List (Int×Int):=[(1,1),(1,2)]++((bi s.data.toList 0).flatMap (gh (di 288) iz)++[pcM (di 288) 256])
theorem kQ(s:ByteArray)(hs:s.size<=300):(bi s.data.toList 0).length<=300:=by
 have h2:=tL s.data.toList s.data.toList.length 0 (by omega);have h3:s.data.toList.length=s.size:=by simp
 omega
theorem mR(s:ByteArray)(hs:s.size<=300):lOk (gX s)=true:=by
 obtain⟨h1,h2⟩:=wg (mT kw) (mT qK) (bi s.data.toList 0) (fun t ht=>⟨fW s t ht,lq (fW s t ht)⟩);have h3:=kQ s hs;have h4:pOk (pcM (di 288) 256).1 (pcM (di 288) 256).2=true:=ov (mT kw 256 (by rw[dE];omega)).1;unfold lOk;have h5:aN (gX s)=true:=by
  unfold gX;unfold aN at *
  rw[a1G,a1G,h1];simp only[a1H,a2E,h4];decide
 have h6:(gX s).length<=4000:=by unfold gX;simp only[a0i,a0y,a02];omega
 rw[h5];simpa using h6
def dV(s:ByteArray):List UInt8:=bV (gX s)
def kh(s:ByteArray):List UInt8:=if s.size<=300 then dV s else []
theorem Cz(s:ByteArray):[(1,1),(1,2)]++((bi s.data.toList 0).flatMap (pcT (di 288) iz)++[pcS (di 288) 256])=gX s:=by
 unfold gX;rw[oI kw qK _ (fun t ht=>lq (fW s t ht)),ly kw (by rw[dE];omega)]
theorem D2{w:World}{base n cap:Nat}{a:Option Addr}{l:List (Int×Int)}(hn:l.length=n)(h:Pcs w base (.slice a n cap) l)(h0:0<n):∃g,a=some ⟨g,0,none⟩/\∀(j:Nat) (u:Value),(aL l)[j]?=some u->w.cell? ((⟨g,0,none⟩:Addr).add j)=some u:=by
 rcases h.2 with⟨_,e⟩|⟨g,cap',cur,e,_⟩
 · omega
 · simp only[a0J]at e;obtain⟨rfl,_,rfl⟩:=e;exact⟨g,rfl,a1R h rfl⟩
theorem sg(s:ByteArray)(w:World)(hs:s.size<=300) :
  Calls Tryz.prog 86 #[.string s] w fun e w'=>e = .returned (.string ⟨(dV s).toArray⟩)/\Below w.heap.size w w':=by
 obtain⟨i0,hi,hz0,hz1,hz2⟩:=a0r Tryz.infoPiece;have hI:¬ (300:Int)<(s.size:Int):=by omega
 have hP0:Hid ((w.alloc (.cells #[.int .i64 1,.int .i64 1,.int .i64 1,.int .i64 2] 146)).ownsRow w.heap.size 146 2 (.slice (some ⟨w.heap.size,0,none⟩) 2 2) 2 [.int .i64 1,.int .i64 1,.int .i64 1,.int .i64 2]):=a1a w #[.int .i64 1,.int .i64 1,.int .i64 1,.int .i64 2] 2 (a0a _) (by unfold maxLen;omega) rfl;have hB0:Hid (Below w.heap.size w (w.alloc (.cells #[.int .i64 1,.int .i64 1,.int .i64 1,.int .i64 2] 146))):=(a0b _ _).alloc (a0a _) _;have HS:=af hs;have HE:=af (Cz s);have HP:Hid (np (gX s)=dV s):=dn (mR s hs);have HLn:Hid ((gX s).length<=4000):=by
  have:=mR s hs;unfold lOk at this;simp only[a0j,a0o]at this;exact this.2
 clear hs;go_enter Tryz.func86,Tryz.ntmps86;go_wp2_with fail;refine(iN 1 w).mono ?_;rintro e x1 ⟨rfl,hx1⟩;have h1P:=af (show x1.ownsRow w.heap.size 146 2 (.slice (some ⟨w.heap.size,0,none⟩) 2 2) 2 [.int .i64 1,.int .i64 1,.int .i64 1,.int .i64 2] by rw[hx1];exact ae hP0);have h1B:=af (show Below w.heap.size w x1 by rw[hx1];exact ae hB0);clear hx1 hP0 hB0;go_wp2_with fail;refine(kg _).mono ?_;rintro e x2 ⟨⟨C,rfl,hBk⟩,hb2⟩;have h2P:=af (eG (ae h1P) hb2);have h2B:=af (ag (ae h1B) hb2);have HBk:=af hBk;clear hBk hb2 h1P h1B;go_wp2_with fail;refine(rz s _ (di 288) iz C _ (ae HS) (ae HBk) (by rw[dE];omega) (by show(List.replicate 32 (5:Int)).length<=300;rw[a0A];omega) (by rw[dE];omega) (fun t ht=>lq (fW s t ht))).mono ?_;rintro e x3 ⟨v,rfl,hp3,hb3⟩;have h3P:=af (eG (ae h2P) hb3);have h3B:=af (ag (ae h2B) hb3);clear hb3 h2P h2B HBk;generalize hR:(bi s.data.toList 0).flatMap (pcT (di 288) iz)++[pcS (di 288) 256]=R at *
 have hR0:0<R.length:=by rw[←hR];simp
 obtain⟨m,hm⟩:∃m,R.length=m:=⟨_,rfl⟩;obtain⟨va,vc,rfl⟩:∃a cap,v = .slice a m cap:=by
  rcases hp3.2 with⟨_,h0⟩|⟨g,cap,_,e,_⟩
  · omega
  · exact⟨_,cap,by rw[←hm];exact e⟩
 obtain⟨g3,rfl,hc3⟩:=D2 hm hp3 (by omega);have HC3:=af hc3;have Hm:=af hm;have bd:Hid (2+m<=maxLen/\(2+m)*16<=140737488355328):=by
  show _/\_;have h1:=ae HLn;rw[←ae HE,a0i,hm]at h1;unfold maxLen;simp only[a0y,a02]at h1;omega
 have hbs:=(ae h3B).size;clear hR hR0 hp3 hc3 hm;go_wp2_with (at_builtin;refine a0F _ rfl _ _ 143 rfl w.heap.size 146 i0 (.agg #[.int .i64 0,.int .i64 0]) 2 16 a1h hi hz0 hz1 hz2 rfl (by decide) (.slice (some ⟨w.heap.size,0,none⟩) 2 2) _ _ rfl (ae h3P) ⟨g3,0,none⟩ m vc (aL R) rfl (by rw[jA,ae Hm]) (ae HC3) (fI R) (ae bd).1 (ae bd).2 hbs ?_;intro v' x4 hown hgrow hnil;clear hnil);have hX:([.int .i64 1,.int .i64 1,.int .i64 1,.int .i64 2]:List Value)++aL R=aL (gX s):=by rw[←ae HE,dr];rfl
 have hN:2+m=(gX s).length:=by rw[←ae HE,a0i,ae Hm];rfl
 rw[hX,hN]at hown;have hP4:Pcs x4 w.heap.size v' (gX s):=hown;obtain⟨a4,c4,rfl⟩:=hP4.form;have hb4:Below w.heap.size w x4:=(ae h3B).grown hgrow hbs (fun j hj=>(a0C (ae h3P) j hj).1);refine(ec a4 c4 (gX s) _ hP4.row (by have:=ae HLn;omega)).mono ?_;rintro e x5 ⟨rfl,hb5⟩;rw[ae HP];have HB5:=af (ag hb4 hb5);clear hX hN hown hP4 hb4 hb5 hgrow;generalize hR:dV s=Q at *
 have HR:=af hR;clear hR;go_wp2;go_ret;exact⟨by rw[ae HR];rfl,ae HB5⟩
theorem oa(s:ByteArray)(w:World)(hs:s.size<=1048576) :
  Calls Tryz.prog 86 #[.string s] w fun e w'=>e = .returned (.string ⟨(kh s).toArray⟩)/\Below w.heap.size w w':=by
 by_cases h:s.size<=300
 · have HF:Hid (kh s=dV s):=a0d h;rw[ae HF];exact sg s w h
 ·
  have hI:(300:Int)<(s.size:Int):=by omega
  have HF:Hid (kh s=[]):=a0e h;clear h;go_enter Tryz.func86,Tryz.ntmps86;go_wp2;go_ret;exact⟨by rw[ae HF];rfl,a0b _ _⟩
def byS(s:ByteArray):ByteArray:=⟨(er s.data.toList).toArray⟩
def byF(s:ByteArray):ByteArray:=⟨(kh s).toArray⟩
theorem Fp(s:ByteArray)(h:¬ s.size<=300):byS s=⟨#[]⟩:=by
 have:er s.data.toList=[]:=by unfold er;rw[a0e (by rw[lC];exact h)]
 unfold byS;rw[this]
theorem Fl(s:ByteArray)(h:¬ s.size<=300):byF s=⟨#[]⟩:=by unfold byF kh;rw[a0e h]
def inc(o:List Int)(k:Nat):List Int:=o.set k (o.getD k 0+1)
def ir(o:List Int)(s:List Nat):List Int:=s.foldl inc o
theorem mX(o:List Int)(k:Nat):(inc o k).length=o.length:=by simp[inc]
theorem ia(o:List Int)(s:List Nat):(ir o s).length=o.length:=by
 induction s generalizing o with
 | nil=>rfl
 | cons x s ih=>show(ir (inc o x) s).length=_;rw[ih,mX]
theorem lm(o:List Int)(s:List Nat)(x:Nat):ir o (s++[x])=inc (ir o s) x:=by simp[ir]
theorem mW(o:List Int)(k j:Nat):(inc o k).getD j 0=o.getD j 0+(if j=k/\k<o.length then 1 else 0):=by
 unfold inc;simp only[List.getD_eq_getElem?_getD,List.getElem?_set];by_cases h:k=j
 ·
  subst h;by_cases hk:k<o.length
  · simp[hk]
  · simp[hk]
 · have:¬ j=k:=fun e=>h e.symm;simp[h,this]
theorem mY(o:List Int)(s:List Nat)(j:Nat):(ir o s).getD j 0=o.getD j 0+(if j<o.length then(s.count j:Int)else 0):=by
 induction s generalizing o with
 | nil=>simp[ir]
 | cons x s ih=>
  show(ir (inc o x) s).getD j 0=_;rw[ih,mW,mX,List.count_cons];by_cases h:j=x
  ·
   subst h;by_cases hk:j<o.length
   · simp[hk];omega
   · simp[hk]
  ·
   have:(x == j)=false:=by simp;exact fun e=>h e.symm
   simp[h,this]
theorem lG(n j:Nat):(List.replicate n (0:Int)).getD j 0=0:=by
 by_cases h:j<n<;>simp[List.getD,h]
theorem vj {l : List Int} {k : Nat} (hk : k < l.length) (h : 0 < l.getD k 0) : 1 ≤ us l := by
  induction l generalizing k with
  | nil => simp at hk
  | cons b l ih =>
    simp only [us, a0p, a0H] at ih ⊢
    cases k with
    | zero => have : 0 < b := by simpa using h
              rw [a0d this]; omega
    | succ k => have := ih (k := k) (by simpa using hk) (by simpa using h); omega
theorem KV{l:List Int}(h:us l=0)(k:Nat)(hk:k<l.length):¬ 0<l.getD k 0:=fun hp=>by have:=vj hk hp;omega
def kA(t:Tk):Nat:=if isB t then t.1.toNat else 257+fnd 3 4 t.2.1.toNat 27
def eU(t:Tk):List Nat:=if isB t then []else [fnd 1 2 t.2.2.toNat 29]
theorem J8{t:Tk}(_:okT t=true):kA t<286:=by
 unfold kA
 split
 · rename_i hB;have:=uJ hB;omega
 · have:=iO 3 4 t.2.1.toNat 27;omega
theorem Fz{t:Tk} : ∀x∈eU t,x<30:=by
 unfold eU;intro x hx
 split at hx
 · simp at hx
 · have:=iO 1 2 t.2.2.toNat 29;simp at hx;omega
def gn(T:List Tk):List Int:=inc (ir (List.replicate 286 0) (T.map kA)) 256
def jM(T:List Tk):List Int:=ir (List.replicate 30 0) (T.flatMap eU)
def cX(T:List Tk):List Int:=if us (jM T)=0 then inc (jM T) 0 else jM T
theorem gg(T:List Tk):(gn T).length=286:=by unfold gn;rw[mX,ia,a0A]
theorem lj(T:List Tk):(jM T).length=30:=by unfold jM;rw[ia,a0A]
theorem fB(T:List Tk):(cX T).length=30:=by unfold cX;split;rw[mX,lj];exact lj T
theorem qU(T:List Tk)(j:Nat)(hj:j<286):(gn T).getD j 0=((T.map kA).count j:Int)+(if j=256 then 1 else 0):=by
 unfold gn;rw[mW,mY,ia,a0A,lG,a0d hj];by_cases h:j=256<;>simp[h]
theorem nT(T:List Tk)(j:Nat)(hj:j<30):(jM T).getD j 0=((T.flatMap eU).count j:Int):=by
 unfold jM;rw[mY,a0A,lG,a0d hj];simp
theorem wi(T:List Tk):(T.flatMap eU).length<=T.length:=by
 induction T with
 | nil=>simp
 | cons t r ih=>
  have:(eU t).length<=1:=by unfold eU;split<;>simp
  simp only[a0V,a0i,a0y];omega
theorem Bi(T:List Tk)(hT:T.length<=300):okC (gn T):=by
 intro i hi;rw[gg]at hi;rw[qU T i hi];have h1:(T.map kA).count i<=(T.map kA).length:=a3x;rw[a0N]at h1
 split<;>omega
theorem Fy(T:List Tk)(hT:T.length<=300):∀i,i<30->0<=(jM T).getD i 0/\(jM T).getD i 0<=300:=by
 intro i hi;rw[nT T i hi];have h1:(T.flatMap eU).count i<=(T.flatMap eU).length:=a3x;have h2:=wi T;omega
theorem vO(T:List Tk)(hT:T.length<=300):okC (cX T):=by
 intro i hi;rw[fB]at hi;have:=Fy T hT i hi;unfold cX
 split
 · rw[mW];split<;>omega
 · omega
theorem Bj(T:List Tk):1<=us (gn T)/\us (gn T)<=286:=by
 refine⟨vj (k:=256) (by rw[gg];omega) ?_,by have:=rQ (gn T);rw[gg]at this;exact this⟩;rw[qU T 256 (by omega),a0d rfl];omega
theorem vP(T:List Tk):1<=us (cX T)/\us (cX T)<=30:=by
 refine⟨?_,by have:=rQ (cX T);rw[fB]at this;exact this⟩;unfold cX
 split
 · rename_i h;refine vj (k:=0) (by rw[mX,lj];omega) ?_;rw[mW,nT T 0 (by omega),lj,a0d (by omega)];omega
 · omega
theorem Cm(T:List Tk)(j:Nat)(h:0<(jM T).getD j 0):0<(cX T).getD j 0:=by
 unfold cX
 split
 · rw[mW];split<;>omega
 · exact h
def eM(l:List Int)(least:Nat):Nat->Nat
 | 0=>0
 | n+1=>if least<n+1/\l.getD n 0=0 then eM l least n else n+1
def mJ(l:List Int)(least:Nat):List Int:=l.take (eM l least l.length)
theorem sJ{l:List Int}{least n:Nat}(h:least<n+1/\l.getD n 0=0):eM l least (n+1)=eM l least n:=by simp only[eM];rw[a0d h]
theorem sK{l:List Int}{least n:Nat}(h:¬ (least<n/\l.getD (n-1) 0=0)):eM l least n=n:=by
 cases n with
 | zero=>rfl
 | succ n=>rw[Nat.add_sub_cancel]at h;simp only[eM];rw[a0e h]
theorem pE(l:List Int)(least n:Nat):eM l least n<=n:=by
 induction n with
 | zero=>exact a0a _
 | succ n ih=>simp only[eM];split<;>omega
theorem qh (l : List Int) (least n : Nat) (h : least ≤ n) : least ≤ eM l least n := by
  induction n with
  | zero => exact h
  | succ n ih => simp only [eM]; split
                 · exact ih (by omega)
                 · exact h
theorem sL(l:List Int)(least n j:Nat)(h1:eM l least n<=j)(h2:j<n):l.getD j 0=0:=by
 induction n with
 | zero=>omega
 | succ n ih=>
  by_cases hc:least<n+1/\l.getD n 0=0
  ·
   rw[sJ hc]at h1;by_cases e:j=n
   · subst e;exact hc.2
   · exact ih h1 (by omega)
  · simp only[eM]at h1;rw[a0e hc]at h1;omega
theorem i6(l:List Int)(least:Nat):(mJ l least).length=eM l least l.length:=by
 unfold mJ;rw[a0x];have:=pE l least l.length;omega
theorem IH(l:List Int)(c j:Nat)(h:j<c):(l.take c).getD j 0=l.getD j 0:=by
 simp[List.getD,h]
theorem vL(l:List Int)(least j:Nat)(h:j<l.length):(mJ l least).getD j 0=l.getD j 0:=by
 by_cases hc:j<eM l least l.length
 · exact IH l _ j hc
 ·
  rw[sL l least l.length j (by omega) h];have:(mJ l least).length<=j:=by rw[i6];omega
  simp[List.getD,this]
theorem EF{l:List Int}(h:∀x∈l,x=0):kr l=0/\us l=0:=by
 induction l with
 | nil=>exact⟨rfl,rfl⟩
 | cons b l ih=>
  obtain⟨h1,h2⟩:=ih (fun x hx=>h x (by simp[hx]));have hb:b=0:=h b (by simp);subst hb;simp only[kr,us,a0p,a0H]at h1 h2 ⊢;rw[h1,h2];exact⟨rfl,rfl⟩
theorem Fu(l:List Int)(least:Nat):kr (mJ l least)=kr l/\us (mJ l least)=us l:=by
 have h:∀x∈l.drop (eM l least l.length),x=0:=by
  intro x hx;obtain⟨i,hi,rfl⟩:=List.mem_iff_getElem.1 hx;rw[List.getElem_drop];rw[a1V]at hi;have:=sL l least l.length (eM l least l.length+i) (by omega) (by omega);have hlt:eM l least l.length+i<l.length:=by omega
  simpa[List.getD,hlt]using this
 obtain⟨h1,h2⟩:=EF h;have e:l=mJ l least++l.drop (eM l least l.length):=(a1s _ _).symm;have k1:kr l=kr (mJ l least)+kr (l.drop (eM l least l.length)):=by
  conv=>lhs;rw[e]
  simp[kr]
 have k2:us l=us (mJ l least)+us (l.drop (eM l least l.length)):=by
  conv=>lhs;rw[e]
  simp[us]
 omega
theorem qQ{l:List Int}(least:Nat)(h:am l=true):am (mJ l least)=true:=by
 obtain⟨h1,h2⟩:=Fu l least;unfold am mC at h ⊢;rw[h1,h2];simp only[a0j,a0o]at h ⊢;obtain⟨⟨ha,hb⟩,hc⟩:=h;refine⟨⟨?_,by rw[i6];have:=pE l least l.length;omega⟩,hc⟩;unfold inL at ha ⊢;rw[a0Y]at ha ⊢;intro x hx;exact ha x (a3m hx)
def cw(T:List Tk):List Int:=mJ (dB 15 (gn T)) 257
def dw(T:List Tk):List Int:=mJ (dB 15 (cX T)) 1
theorem BA:p2 14=16384:=by decide
theorem Mv:p2 6=64:=by decide
theorem J6(T:List Tk)(hT:T.length<=300):(dB 15 (gn T)).length=286/\am (dB 15 (gn T))=true/\∀i,i<286->0<=(dB 15 (gn T)).getD i 0/\(dB 15 (gn T)).getD i 0<=15/\(0<(dB 15 (gn T)).getD i 0<->0<(gn T).getD i 0):=by
 have h1:=Bj T;have h:=qS (m:=14) (Bi T hT) (by rw[gg];omega) (by rw[fp];omega) (by rw[fp];have h2:=BA;omega) (by omega);rw[gg]at h;exact h
theorem AK(T:List Tk)(hT:T.length<=300):(dB 15 (cX T)).length=30/\am (dB 15 (cX T))=true/\∀i,i<30->0<=(dB 15 (cX T)).getD i 0/\(dB 15 (cX T)).getD i 0<=15/\(0<(dB 15 (cX T)).getD i 0<->0<(cX T).getD i 0):=by
 have h1:=vP T;have h:=qS (m:=14) (vO T hT) (by rw[fB];omega) (by rw[fp];omega) (by rw[fp];have h2:=BA;omega) (by omega);rw[fB]at h;exact h
theorem kC(T:List Tk)(hT:T.length<=300):257<=(cw T).length/\(cw T).length<=286:=by
 obtain⟨h1,_,_⟩:=J6 T hT;unfold cw;rw[i6,h1];exact⟨qh _ _ _ (by omega),pE _ _ _⟩
theorem nl(T:List Tk)(hT:T.length<=300):1<=(dw T).length/\(dw T).length<=30:=by
 obtain⟨h1,_,_⟩:=AK T hT;unfold dw;rw[i6,h1];exact⟨qh _ _ _ (by omega),pE _ _ _⟩
theorem jy(T:List Tk)(hT:T.length<=300):am (cw T)=true:=qQ 257 (J6 T hT).2.1
theorem lw(T:List Tk)(hT:T.length<=300):am (dw T)=true:=qQ 1 (AK T hT).2.1
theorem zk{l:List Int}{j:Nat}(h:0<l.getD j 0):j<l.length:=by
 rcases a1e j l.length with h'|h'
 · exact h'
 · simp[List.getD,h']at h
theorem xC(T:List Tk)(hT:T.length<=300)(k:Nat)(hk:k=256∨k∈T.map kA)(h286:k<286):0<(cw T).getD k 0:=by
 obtain⟨h1,_,h3⟩:=J6 T hT;unfold cw;rw[vL _ _ _ (by omega)];refine(h3 k h286).2.2.2 ?_;rw[qU T k h286];rcases hk with rfl|hk
 · rw[a0d rfl];omega
 ·
  have:=List.count_pos_iff.2 hk
  split<;>omega
theorem GY(T:List Tk)(hT:T.length<=300)(k:Nat)(hk:k∈T.flatMap eU)(h30:k<30):0<(dw T).getD k 0:=by
 obtain⟨h1,_,h3⟩:=AK T hT;unfold dw;rw[vL _ _ _ (by omega)];refine(h3 k h30).2.2.2 (Cm T k ?_);rw[nT T k h30];have:=List.count_pos_iff.2 hk;omega
theorem Bz(T:List Tk)(hT:T.length<=300)(hok:∀t∈T,okT t=true)(t:Tk)(ht:t∈T):0<(cw T).getD (kA t) 0/\∀k∈eU t,0<(dw T).getD k 0:=by
 refine⟨xC T hT _ (.inr (a2P ht)) (J8 (hok t ht)),fun k hk=>GY T hT k ?_ (Fz k hk)⟩;exact List.mem_flatMap.2 ⟨t,ht,hk⟩
theorem rq(T:List Tk)(hT:T.length<=300)(hok:∀t∈T,okT t=true)(t:Tk)(ht:t∈T):f9 (cw T) (dw T) t:=by
 obtain⟨h1,h2⟩:=Bz T hT hok t ht;unfold f9;unfold kA at h1;unfold eU at h2
 split
 · rename_i h;rw[a0d h]at h1;exact zk h1
 · rename_i h;rw[a0e h]at h1 h2;exact⟨zk h1,zk (h2 _ (by simp))⟩
def nP(A:List Int):List Int:=ir (List.replicate 19 0) (A.map Int.toNat)
def bI(A:List Int):List Int:=dB 7 (nP A)
theorem f8(A:List Int):(nP A).length=19:=by unfold nP;rw[ia,a0A]
theorem qg(A:List Int)(j:Nat)(hj:j<19):(nP A).getD j 0=((A.map Int.toNat).count j:Int):=by
 unfold nP;rw[mY,a0A,lG,a0d hj];simp
theorem AD(A:List Int)(hA:A.length<=400):okC (nP A):=by
 intro i hi;rw[f8]at hi;rw[qg A i hi];have h1:(A.map Int.toNat).count i<=(A.map Int.toNat).length:=a3x;rw[a0N]at h1;omega
theorem AE(A:List Int)(h0:0<A.length)(hA:∀x∈A,0<=x/\x<=15):1<=us (nP A)/\us (nP A)<=19:=by
 refine⟨?_,by have:=rQ (nP A);rw[f8]at this;exact this⟩;have h1:=hA A[0] (a1O h0);refine vj (k:=(A[0]).toNat) (by rw[f8];omega) ?_;rw[qg A _ (by omega)];have:=List.count_pos_iff.2 (a2P (f:=Int.toNat) (a1O h0));omega
theorem uL(A:List Int)(h0:0<A.length)(h4:A.length<=400)(hA:∀x∈A,0<=x/\x<=15):(bI A).length=19/\am (bI A)=true/\∀i,i<19->0<=(bI A).getD i 0/\(bI A).getD i 0<=7/\(0<(bI A).getD i 0<->0<(nP A).getD i 0):=by
 have h1:=AE A h0 hA;have h:=qS (m:=6) (AD A h4) (by rw[f8];omega) (by rw[fp];omega) (by rw[fp];have h2:=Mv;omega) (by omega);rw[f8]at h;exact h
theorem Dm(A:List Int)(h0:0<A.length)(h4:A.length<=400)(hA:∀x∈A,0<=x/\x<=15)(x:Int)(hx:x∈A):0<(bI A).getD x.toNat 0:=by
 have h1:=hA x hx;refine((uL A h0 h4 hA).2.2 x.toNat (by omega)).2.2.2 ?_;rw[qg A _ (by omega)];have:=List.count_pos_iff.2 (a2P (f:=Int.toNat) hx);omega
def dJ(L D:List Int):List (Int×Int):=
 [((L.length:Int)-257,5),((D.length:Int)-1,5),(15,4)]++(bD.map (fun i=>((bI (L++D)).getD i 0,(3:Int)))++(L++D).map (fun x=>pcM (bI (L++D)) x.toNat))
def jR(T:List Tk):List (Int×Int):=[(1,1),(2,2)]++(dJ (cw T) (dw T)++(T.flatMap (gh (cw T) (dw T))++[pcM (cw T) 256]))
theorem lr{l:List Int}(h:am l=true):∀x∈l,0<=x/\x<=15:=by
 intro x hx;obtain⟨i,hi,rfl⟩:=List.mem_iff_getElem.1 hx;have:=kp (eD h) hi;simpa[List.getD,hi]using this
theorem IJ{L D:List Int}(hL:am L=true)(hD:am D=true)(l0:257<=L.length)(l1:L.length<=286)(d0:1<=D.length)(d1:D.length<=30):aN (dJ L D)=true/\(dJ L D).length<=338:=by
 have hA:∀x∈L++D,0<=x/\x<=15:=by
  intro x hx;rcases a0S.1 hx with h|h
  · exact lr hL x h
  · exact lr hD x h
 obtain⟨h1,h2,h3⟩:=uL (L++D) (by rw[a0i];omega) (by rw[a0i];omega) hA;refine⟨?_,?_⟩
 ·
  unfold dJ aN;rw[a1G,a1G];simp only[a0j];refine⟨?_,?_,?_⟩
  ·
   simp only[a1H,a2E,a2M,a0j];refine⟨aV.2 ⟨by omega,by omega,?_⟩,aV.2 ⟨by omega,by omega,?_⟩,by decide⟩
   ·
    have:p2 (5:Int).toNat=32:=by decide
    rw[this];omega
   ·
    have:p2 (5:Int).toNat=32:=by decide
    rw[this];omega
  ·
   rw[a0Y];intro x hx;obtain⟨i,hi,rfl⟩:=a2w.1 hx;have hi19:i<19:=by
    have:∀i∈bD,i<19:=by decide
    exact this i hi
   have:=h3 i hi19;refine aV.2 ⟨by omega,this.1,?_⟩;have:p2 (3:Int).toNat=8:=by decide
   rw[this];omega
  · rw[a0Y];intro x hx;obtain⟨y,hy,rfl⟩:=a2w.1 hx;have hy2:=hA y hy;exact ov (kp (eD h2) (by rw[h1];omega))
 · unfold dJ;simp only[a0i,a0N,a0y,a02];have:bD.length=19:=rfl;omega
theorem pI(T:List Tk)(hT:T.length<=300)(hok:∀t∈T,okT t=true):lOk (jR T)=true:=by
 have gL:=mT (jy T hT);have gD:=mT (lw T hT);obtain⟨l0,l1⟩:=kC T hT;obtain⟨d0,d1⟩:=nl T hT;obtain⟨h1,h2⟩:=wg gL gD T (fun t ht=>⟨hok t ht,rq T hT hok t ht⟩);obtain⟨t1,t2⟩:=IJ (jy T hT) (lw T hT) l0 l1 d0 d1;have h4:pOk (pcM (cw T) 256).1 (pcM (cw T) 256).2=true:=ov (gL 256 (by omega)).1;unfold lOk;have h5:aN (jR T)=true:=by
  unfold jR;unfold aN at *
  rw[a1G,a1G,a1G,h1,t1];simp only[a1H,a2E,h4];decide
 have h6:(jR T).length<=4000:=by unfold jR;simp only[a0i,a0y,a02];omega
 rw[h5];simpa using h6
def oq(s:ByteArray):List UInt8:=bV (jR (bi s.data.toList 0))
theorem oR(g o:Nat)(cap n least:Nat)(l:List Int)(w:World)(hn:l.length=n)(h:∀i,i<n->w.cell? ⟨g,o+i,none⟩=some (.int .i64 (l.getD i 0)))(hc:n<=cap)(hm:n<=300)(hl:least<=n) :
  Calls Tryz.prog 120 #[.slice (some ⟨g,o,none⟩) n cap,.int .i64 (least:Nat)] w fun e w'=>e = .returned (.slice (some ⟨g,o,none⟩) (eM l least n) cap)/\w'=w:=by
 have hcI:(n:Int)<=(cap:Int):=by omega
 have hmI:(n:Int)<=300:=by omega
 have H:=af h;clear h hn hc hm hl;go_enter Tryz.func120,Tryz.ntmps120;go_wp2
 go_loop [5] (fun x=>∃k:Nat,k<=n/\x = .int .i64 k/\eM l least n=eM l least k) (fun x=>(intOf x).toNat)
 case atStart=>exact⟨n,a0a _,rfl,rfl⟩
 case round=>
  obtain⟨k,hk,rfl,hcut⟩:=hrel;have HC:=af hcut;have HK:=af hk;have hkI:(k:Int)<=(n:Int):=by omega
  clear hcut hk;by_cases hlt:least<k
  ·
   have hltI:decide ((least:Int)<(k:Int))=true:=a0E (by omega);have hltI':(least:Int)<(k:Int):=by omega
   obtain⟨j,hj⟩:∃j,k=j+1:=⟨k-1,by omega⟩;subst hj;have hc0:=ae H j (by have:=ae HK;omega);have hs:=af (fun h=>sJ (l:=l) (least:=least) (n:=j) h);have hp:=af (fun h=>sK (l:=l) (least:=least) (n:=j+1) h);have hjn:(j:Int)<(n:Int):=by omega
   generalize hy:l.getD j 0=y at *
   have HY:=af hy;clear hy;by_cases hz:y=0
   ·
    subst hz;have HC2:Hid (eM l least n=eM l least j):=(ae HC).trans (ae hs ⟨hlt,rfl⟩);have HJ:Hid (j<=n):=by show j<=n;have:=ae HK;omega
    clear hlt;go_wp2
    go_round
    case rel=>exact⟨j,ae HJ,by go_num,ae HC2⟩
    case measure=>simp[intOf]
   ·
    have hzb:(y == 0)=false:=by simpa using hz
    have HC2:Hid (eM l least n=j+1):=(ae HC).trans (ae hp (by rw[Nat.add_sub_cancel,ae HY];exact fun h=>hz h.2));clear hlt;go_wp2;go_ret;exact⟨by rw[ae HC2];rfl,rfl⟩
  ·
   have hltI':¬ (least:Int)<(k:Int):=by omega
   have HC2:Hid (eM l least n=k):=(ae HC).trans (sK (fun h=>hlt h.1));clear hlt;go_wp2;go_ret;exact⟨by rw[ae HC2];rfl,rfl⟩
theorem Tryz.infoLenK:(Tryz.prog.info? 225).map (·.size)=some 19:=by kernel_rfl
theorem wQ(a:Option Addr)(cap n base:Nat)(l:List Int)(w:World)(hn:l.length=n)(h:dK w base a l)(hB:base<=w.heap.size)(hm:n<=300) :
  Calls Tryz.prog 157 #[.slice a n cap] w fun e w'=>(∃C,e = .returned (.agg C)/\bn w' base l C)/\Below w.heap.size w w':=by
 refine(Bkx.codeBook_any Bkx.bkN (.inr (.inr rfl)) a cap n l w hn h.1 hm).mono ?_;rintro e w' ⟨vs,C,rfl,hC,h1,h2,hb⟩;obtain⟨q,sc,rfl⟩:=h2.form;subst hn;exact⟨⟨C,rfl,a,cap,_,_,q,sc,hC,h.later hb,(cx (de l 15) (h1.own (de l 15))).mono (by omega),(cx rfl h2).mono (by omega)⟩,hb⟩
theorem zy(k:Nat)(l:List Int)(C:Array Value)(base:Nat)(w:World)(hB:bn w base l C)(hk:k<l.length)(hm:l.length<=300) :
  Calls Tryz.prog 159 #[.agg C,.int .i64 (k:Int)] w fun e w'=>e = .returned (.agg #[.int .i64 (btI ((bF l 15).2.getD k 0) (l.getD k 0)),.int .i64 (l.getD k 0)])/\Below w.heap.size w w':=by
 obtain⟨a,cap,ac,cc,q,sc,e,h1,h2,h3⟩:=hB;exact Bkx.bookPut_any Bkx.bkN (.inr (.inr rfl)) a ac cap l.length cc k _ _ C l (bF l 15).2 w e rfl (de l 15) h1.1 h2.1 hk hm
def pS(w:World)(b base:Nat)(l:List Int)(C:Array Value):Prop:=bn w base l C/\w.rangeAt b 0 C.toList/\b<w.heap.size
theorem pS.later{w w':World}{b base:Nat}{l:List Int}{C:Array Value}(h:pS w b base l C)(hb:Below w.heap.size w w'):pS w' b base l C:=
 ⟨h.1.later hb,iC h.2.1 hb h.2.2,a0g h.2.2 hb.size⟩
theorem yh(k b base:Nat)(l:List Int)(C:Array Value)(w:World)(hB:pS w b base l C)(hk:k<l.length)(hm:l.length<=300) :
  Calls Tryz.prog 158 #[.int .i64 (k:Int),.pointer (some ⟨b,0,none⟩)] w fun e w'=>e = .returned (.agg #[.int .i64 (pcS l k).1,.int .i64 (pcS l k).2])/\Below w.heap.size w w':=by
 have hA:Below w.heap.size w (w.alloc (.cells #[.int .i64 0,.int .i64 0] 146)):=(a0b _ _).alloc (a0a _) _;have HA:=af hA;have HR:=af (hB.later hA).2.1;have HS:=af hB.1.size;have HP:=af (zy k l C base _ (hB.later hA).1 hk hm);have HPc:Hid (pcS l k=(btI ((bF l 15).2.getD k 0) (l.getD k 0),l.getD k 0)):=rfl;generalize btI ((bF l 15).2.getD k 0) (l.getD k 0)=u at *
 generalize l.getD k 0=v at *
 clear hB hk hm hA;go_enter Tryz.func158,Tryz.ntmps158;go_wp2_with (first
  | (refine aP rfl 225 (.tmp 1) rfl b 0 rfl C _ (ae HR) a2X rfl (by rw[ae HS];exact Tryz.infoLenK) ?_)
  | (go_at_call 159;refine(ae HP).mono ?_;rintro e x1 ⟨rfl,hb1⟩;have k1:=qI hb1;obtain⟨m0,m1,_⟩:=cn k1;obtain⟨n0,n1⟩:=lp k1))
 have k2:=oj k1 (.int .i64 u) (.int .i64 v);obtain⟨r0,r1,_⟩:=cn k2;refine a0w (v:=.agg #[.int .i64 u,.int .i64 v]) (by simp[results,Tryz.results158,go_sem,r0,r1]) rfl ⟨by rw[ae HPc],?_⟩;exact ah (ah (ag (ae HA) hb1) (a0a _) _) (a0a _) _
def gx(l:List Int)(t:List Int):List (Int×Int):=t.map fun x=>pcS l x.toNat
theorem zD(l t:List Int)(k:Nat)(h:k<t.length):gx l (t.take (k+1))=gx l (t.take k)++[pcS l (t.getD k 0).toNat]:=by
 unfold gx;rw[cA t k h,a0K];rfl
theorem Cp(a:Option Addr)(cap n b base:Nat)(t l:List Int)(C:Array Value)(w:World)(hn:t.length=n)(h:bH w a t)(hm:n<=1000)(hB:pS w b base l C)(hl:l.length<=300)(hall:∀i,i<t.length->0<=t.getD i 0/\t.getD i 0<(l.length:Int)) :
  Calls Tryz.prog 114 #[.slice a n cap,.func (.func 158) #[] #[.pointer (some ⟨b,0,none⟩)]] w fun e w'=>∃v,e = .returned v/\Pcs w' w.heap.size v (gx l t)/\Below w.heap.size w w':=by
 have hmI:(n:Int)<=1000:=by omega
 have Hn:=af hn;have Hm:=af hm;have Hl:=af hl;have HA:=af hall;have HB:=af hB;clear hn hm hall hl hB;obtain⟨i0,hi,hz0,hz1,hz2⟩:=a0r Tryz.infoPiece;go_enter Tryz.func114,Tryz.ntmps114;go_wp2_with fail
 go_loopw [5,7,10] (fun o _ i wr=>∃k:Nat,k<=n/\i = .int .i64 k/\Pcs wr w.heap.size o (gx l (t.take k))/\Below w.heap.size w wr) (fun _ _ i _=>n-(intOf i).toNat)
 case atStart=>exact⟨0,a0h _,rfl,a00 _ _ _ _,a0b _ _⟩
 case round=>
  obtain⟨k,hk,rfl,hq,hbel⟩:=hrel;have hbs:=hbel.size;by_cases hlt:k<n
  ·
   obtain⟨g,o,rfl,hg,hcc⟩:=(h.later hbel) (by rw[ae Hn];omega);have c0:=hcc k (by rw[ae Hn];exact hlt);have hst:=af (zD l t k (by rw[ae Hn];exact hlt));have hlk:Hid ((gx l (t.take k)).length=k):=by show(gx l (t.take k)).length=k;unfold gx;have:=ae Hn;simp;omega
   obtain⟨y0,y1⟩:=ae HA k (by rw[ae Hn];exact hlt);have Hk:=af hk;clear hcc hk h;generalize t.getD k 0=y at *
   obtain⟨q,rfl⟩:=a0s y0;rw[a0q]at hst;have HP:=af (yh q b base l C wr ((ae HB).later hbel) (by omega) (ae Hl));generalize hR:pcS l q=R at *
   clear hR;obtain⟨R1,R2⟩:=R;go_wp2_with fail;refine(ae HP).mono ?_;rintro e x1 ⟨rfl,hb1⟩;have hq1:=Pcs.later hq hb1 (a0a _);have hbel1:=ag hbel hb1;have hbs1:=hbel1.size;have hlen1:Hid ((gx l (t.take k)).length+1<=maxLen/\((gx l (t.take k)).length+1)*16<=140737488355328):=by
    show _/\_;rw[ae hlk];have:=ae Hm;unfold maxLen;omega
   clear hq hbel hb1 HP;go_wp2_with (at_builtin;refine a0F _ rfl _ _ 143 rfl w.heap.size 146 i0 (.agg #[.int .i64 0,.int .i64 0]) 2 16 a1h hi hz0 hz1 hz2 rfl (by decide) _ _ _ rfl (a0m hq1 _) ⟨x1.heap.size,0,none⟩ 1 1 [.int .i64 R1,.int .i64 R2] rfl rfl (pP x1 _ _ _) (pO _ _) (ae hlen1).1 (ae hlen1).2 (ay hbs1 _) ?_;intro v' x2 hown hgrow hnil;clear hnil);have hb2:=aK (v:=u5) hgrow hq1 (a0a _) hbs1 hbel1;have hq2:=kH hown;rw[←ae hst]at hq2;clear hown hgrow hq1;go_wp2;go_roundw
   case rel=>exact⟨k+1,by have:=ae Hk;omega,by go_num,hq2,hb2⟩
   case measure=>simp[intOf];omega
  · have hlk2:t.take k=t:=a0t (by rw[ae Hn];omega);rw[hlk2]at hq;obtain⟨va,vc,rfl⟩:=hq.form;clear hlk2 h;go_wp2;go_ret;exact⟨_,rfl,hq,hbel⟩
end Go.Proofs.YtfhdadkcophoaaaGreatDoor
namespace Go.Proofs.YtfhdadkcophoaaaGreatDoor
open Go.RowKit Go.Shelf Corb
attribute [local go_sem] Oper.semAt_some
theorem nz{F:Fence}{n:Nat}{P:Program}{ops:Array Oper}{o:Oper}{a:Act}{w:World}{K:Act->World->Prop}{Q:Exit->Act->World->Prop}{E:Prop}
  (hg:o.guard=none) (l c:Operand) (t:TypeId) (hop:o.op=Op.makeSlice t l c)
  (base:Nat) (e:TypeId) (i:TypeInfo) (z:Value) (size:Nat) (h1:P.underlying t=some (.slice e)) (h2:P.info? e=some i) (h3:i.zero=some z) (h4:i.size=size)
  (kl kc:IntKind) (L C:Int) (k:Nat) (hl:a.eval l = .int kl L) (hc:a.eval c = .int kc C) (hL:L=(k:Int)) (hC:C=(k:Int)) (b2:i.bytes*k<=281474976710656) (b3:k<=maxLen) (b4:base<=w.heap.size)
  (hK:∀g w',w.heap.size=g->w'.ownsRow base e size (.slice (some ⟨g,0,none⟩) k k) k (madeCells z.cells (k*size)).toList->w.grownBy w' none->K (a.put o.dst (.slice (some ⟨g,0,none⟩) k k)) w') :
  if Region.wanted o (yielded ops a.tmps)=true then Oper.wpIn F n P o a w K Q else E:=by
 have hw:Region.wanted o (yielded ops a.tmps)=true:=by simp[Region.wanted,hg]
 rw[a0d hw];obtain⟨w',hrun,r1,r2⟩:=run_make_full (P:=P) w base t e i z size h1 h2 h3 h4 kl kc k b2 b3 b4;subst hL;subst hC;unfold Oper.wpIn;refine⟨?_,?_⟩
 · simp[Oper.about,hop]
 · rw[Oper.semAt_plain F _ _ (by rw[hop];intro c hc';cases hc')];simp[execOp,hop,hl,hc,hrun,Result.andThen];exact hK _ w' rfl r1 r2
theorem wH{β:Type}(n₀:Nat)(v:Value)(f:β->List Int):Own (fun(b:β) W=>ap W n₀ v (f b)):=fun b X _ row hs hg hrow=>by
 refine a17 hs hg ?_;rcases hs.2 with⟨rfl,_⟩|⟨g,cap,cur,rfl,_,hgb,_⟩
 · exact .inl rfl
 ·
  refine .inr fun e'=>?_;obtain⟨o,ho,hc⟩:=hrow g e'.symm;rw[show X.heap[g]?=_ from hgb]at ho;cases ho
  cases hc
def Sts(n₀:Nat)(w W:World)(r10 r11:Option Nat)(r4 r5:Option (Nat×Value)):Prop:=
 Below n₀ w W/\(∀g,r10=some g->ap W n₀ (.slice (some ⟨g,0,none⟩) 286 286) (List.replicate 286 0))/\(∀g,r11=some g->ap W n₀ (.slice (some ⟨g,0,none⟩) 30 30) (List.replicate 30 0)) /\
 (∀b v,r4=some (b,v)->n₀<=b/\Boxed W b 104 v)/\(∀b v,r5=some (b,v)->n₀<=b/\Boxed W b 104 v)/\(∀g g',r10=some g->r11=some g'->g≠g')/\(∀b v b' v',r4=some (b,v)->r5=some (b',v')->b≠b')/\n₀<=W.heap.size
theorem kj{W W':World}(h:W.grownBy W' none):Below W.heap.size W W':=(a0b _ _).grown h (a0a _) (fun j hj=>by cases hj)
theorem Sts.later{n₀:Nat}{w W W':World}{r10 r11:Option Nat}{r4 r5:Option (Nat×Value)}(h:Sts n₀ w W r10 r11 r4 r5)(hb:Below W.heap.size W W'):Sts n₀ w W' r10 r11 r4 r5:=by
 obtain⟨h0,h1,h2,h3,h4,h5,h6,h7⟩:=h;exact⟨h0.trans (hb.mono h7),fun g e=>(h1 g e).later hb (a0a _),fun g e=>(h2 g e).later hb (a0a _),fun b v e=>⟨(h3 b v e).1,Boxed.later (h3 b v e).2 hb⟩,fun b v e=>⟨(h4 b v e).1,Boxed.later (h4 b v e).2 hb⟩,h5,h6,a0D h7 hb.size⟩
theorem Sts.make10{n₀:Nat}{w W W':World}{r11:Option Nat}{r4 r5:Option (Nat×Value)}(h:Sts n₀ w W none r11 r4 r5){g:Nat}(hg:W.grownBy W' none)(hgs:W.heap.size=g)(hn:ap W' n₀ (.slice (some ⟨g,0,none⟩) 286 286) (List.replicate 286 0)):Sts n₀ w W' (some g) r11 r4 r5:=by
 subst hgs;have hlt:∀g,r11=some g->g<W.heap.size:=fun g e=>(h.2.2.1 g e).below.2;obtain⟨h0,h1,h2,h3,h4,h5,h6,h7⟩:=h.later (kj hg);exact⟨h0,fun g e=>by cases e;exact hn,h2,h3,h4,fun g g' e e'=>by cases e;have:=hlt g' e';omega,h6,h7⟩
theorem Sts.make11{n₀:Nat}{w W W':World}{r10:Option Nat}{r4 r5:Option (Nat×Value)}(h:Sts n₀ w W r10 none r4 r5){g:Nat}(hg:W.grownBy W' none)(hgs:W.heap.size=g)(hn:ap W' n₀ (.slice (some ⟨g,0,none⟩) 30 30) (List.replicate 30 0)):Sts n₀ w W' r10 (some g) r4 r5:=by
 subst hgs;have hlt:∀g,r10=some g->g<W.heap.size:=fun g e=>(h.2.1 g e).below.2;obtain⟨h0,h1,h2,h3,h4,h5,h6,h7⟩:=h.later (kj hg);exact⟨h0,h1,fun g e=>by cases e;exact hn,h3,h4,fun g g' e e'=>by cases e';have:=hlt g e;omega,h6,h7⟩
theorem Sts.box4{n₀:Nat}{w W:World}{r10 r11:Option Nat}{r5:Option (Nat×Value)}(h:Sts n₀ w W r10 r11 none r5)(v:Value):Sts n₀ w (W.alloc (.cells #[v] 104)) r10 r11 (some (W.heap.size,v)) r5:=by
 have hlt:∀b v,r5=some (b,v)->b<W.heap.size:=fun b v e=>(h.2.2.2.2.1 b v e).2.lt;have h8:=h.2.2.2.2.2.2.2;obtain⟨h0,h1,h2,h3,h4,h5,h6,h7⟩:=h.later ((a0b _ W).alloc (a0a _) (.cells #[v] 104));exact⟨h0,h1,h2,fun b u e=>by cases e;exact⟨h8,Boxed.new _ _ _⟩,h4,h5,fun b u b' u' e e'=>by cases e;have:=hlt b' u' e';omega,h7⟩
theorem Sts.box5{n₀:Nat}{w W:World}{r10 r11:Option Nat}{r4:Option (Nat×Value)}(h:Sts n₀ w W r10 r11 r4 none)(v:Value):Sts n₀ w (W.alloc (.cells #[v] 104)) r10 r11 r4 (some (W.heap.size,v)):=by
 have hlt:∀b v,r4=some (b,v)->b<W.heap.size:=fun b v e=>(h.2.2.2.1 b v e).2.lt;have h8:=h.2.2.2.2.2.2.2;obtain⟨h0,h1,h2,h3,h4,h5,h6,h7⟩:=h.later ((a0b _ W).alloc (a0a _) (.cells #[v] 104));exact⟨h0,h1,h2,h3,fun b u e=>by cases e;exact⟨h8,Boxed.new _ _ _⟩,h5,fun b u b' u' e e'=>by cases e';have:=hlt b u e;omega,h7⟩
theorem bP{W:World}{n₀ b g n:Nat}{v:Value}{l:List Int}(h:Boxed W b 104 v)(hr:ap W n₀ (.slice (some ⟨g,0,none⟩) n n) l):b≠g:=by
 intro e;exact h.not_row (by decide) hr (by rw[e];rfl)
theorem jD{W:World}{n₀ b g n:Nat}{v:Value}{l:List Int}(h:Boxed W b 9 v)(hr:ap W n₀ (.slice (some ⟨g,0,none⟩) n n) l):b≠g:=by
 intro e;exact h.not_row (by decide) hr (by rw[e];rfl)
theorem cj{W:World}{B b o:Nat}{t:TypeId}{v:Value}(h:Boxed W B t v)(hne:B≠b)(u:Value):Boxed (W.setCell ⟨b,o,none⟩ u) B t v:=(a0I _ _ _ B hne).trans h
theorem tw{W:World}{n₀ D g n:Nat}{r:Option (List Deferred)}{l:List Int}(h:W.heap[D]?=some (.deferred r))(hr:ap W n₀ (.slice (some ⟨g,0,none⟩) n n) l):D≠g:=by
 rintro rfl;rcases hr.2 with⟨e,_⟩|⟨g,cap,cur,e,_,hgb,_⟩
 · cases e
 · simp only[a0J,a0k,a0v,a0M]at e;rw[←e.1]at hgb;rw[h]at hgb;cases hgb
theorem Kg(l:List Int):bT l l.length=0<->us l=0:=by
 have hp:∀k,0<=bT l k:=by
  intro k;induction k with
  | zero=>exact a2m _
  | succ k ih=>simp only[bT];split<;>omega
 constructor
 ·
  intro h;rcases a3q (us l)with h1|h1
  · exact h1
  ·
   exfalso;have:∃k,k<l.length/\0<l.getD k 0:=by
    clear h hp;induction l with
    | nil=>simp[us]at h1
    | cons b l ih=>
     by_cases hb:0<b
     · exact⟨0,by simp,by simpa using hb⟩
     · obtain⟨k,hk,hp⟩:=ih (by simp only[us,a0p,a0H,a0e hb]at h1;simpa[us]using h1);exact⟨k+1,by simpa using hk,by simpa using hp⟩
   obtain⟨k,hk,hp⟩:=this;have:=Bp l l.length k hk;omega
 ·
  intro h;have:∀k,k<=l.length->bT l k=0:=by
   intro k;induction k with
   | zero=>exact fun _=>rfl
   | succ k ih=>
    intro hk;have h1:=KV h k (by omega);simp only[bT];rw[ih (by omega),a0e h1]
  exact this _ (a0a _)
theorem Sts.put4{n₀ b:Nat}{w W:World}{v:Value}{r10 r11:Option Nat}{r5:Option (Nat×Value)}(h:Sts n₀ w W r10 r11 (some (b,v)) r5)(u:Value):Sts n₀ w (W.setCell ⟨b,0,none⟩ u) r10 r11 (some (b,u)) r5:=by
 obtain⟨h0,h1,h2,h3,h4,h5,h6,h7⟩:=h;have hb:=h3 b v rfl;exact⟨ah h0 hb.1 u,fun g e=>(h1 g e).setOther (bP hb.2 (h1 g e)) u,fun g e=>(h2 g e).setOther (bP hb.2 (h2 g e)) u,fun b' v' e=>by cases e;exact⟨hb.1,hb.2.set u⟩,fun b' v' e=>⟨(h4 b' v' e).1,(h4 b' v' e).2.other (h6 b v b' v' rfl e).symm u⟩,h5,fun b' v' b'' v'' e e'=>by cases e;exact h6 b v b'' v'' rfl e',by simpa using h7⟩
theorem Sts.put5{n₀ b:Nat}{w W:World}{v:Value}{r10 r11:Option Nat}{r4:Option (Nat×Value)}(h:Sts n₀ w W r10 r11 r4 (some (b,v)))(u:Value):Sts n₀ w (W.setCell ⟨b,0,none⟩ u) r10 r11 r4 (some (b,u)):=by
 obtain⟨h0,h1,h2,h3,h4,h5,h6,h7⟩:=h;have hb:=h4 b v rfl;exact⟨ah h0 hb.1 u,fun g e=>(h1 g e).setOther (bP hb.2 (h1 g e)) u,fun g e=>(h2 g e).setOther (bP hb.2 (h2 g e)) u,fun b' v' e=>⟨(h3 b' v' e).1,(h3 b' v' e).2.other (h6 b' v' b v e rfl) u⟩,fun b' v' e=>by cases e;exact⟨hb.1,hb.2.set u⟩,h5,fun b' v' b'' v'' e e'=>by cases e';exact h6 b' v' b v e rfl,by simpa using h7⟩
theorem Sts.fill4{n₀ b g:Nat}{w W:World}{v:Value}{r11:Option Nat}{r5:Option (Nat×Value)}(h:Sts n₀ w W (some g) r11 (some (b,v)) r5):Sts n₀ w (W.setCell ⟨b,0,none⟩ (.slice (some ⟨g,0,none⟩) 286 286)) (some g) r11 (some (b,.slice (some ⟨g,0,none⟩) 286 286)) r5:=h.put4 _
theorem Sts.fill5{n₀ b g:Nat}{w W:World}{v:Value}{r10:Option Nat}{r4:Option (Nat×Value)}(h:Sts n₀ w W r10 (some g) r4 (some (b,v))):Sts n₀ w (W.setCell ⟨b,0,none⟩ (.slice (some ⟨g,0,none⟩) 30 30)) r10 (some g) r4 (some (b,.slice (some ⟨g,0,none⟩) 30 30)):=h.put5 _
def iS{s:ByteArray}(pre:List (TkS s)):List Int:=ir (List.replicate 286 0) ((pre.map Subtype.val).map kA)
def bS{s:ByteArray}(pre:List (TkS s)):List Int:=ir (List.replicate 30 0) ((pre.map Subtype.val).flatMap eU)
theorem kz{s:ByteArray}(pre:List (TkS s)):(iS pre).length=286:=by unfold iS;rw[ia,a0A]
theorem i7{s:ByteArray}(pre:List (TkS s)):(bS pre).length=30:=by unfold bS;rw[ia,a0A]
theorem zF{s:ByteArray}(pre:List (TkS s))(x:TkS s)(h:isB x.1=true):iS (pre++[x])=inc (iS pre) x.1.1.toNat:=by
 unfold iS;rw[a0K,a0K,a2H,a2H,lm];have:kA x.1=x.1.1.toNat:=by unfold kA;rw[a0d h]
 rw[this]
theorem zG{s:ByteArray}(pre:List (TkS s))(x:TkS s)(h:isB x.1=false):iS (pre++[x])=inc (iS pre) (257+fnd 3 4 x.1.2.1.toNat 27):=by
 unfold iS;rw[a0K,a0K,a2H,a2H,lm];have:kA x.1=257+fnd 3 4 x.1.2.1.toNat 27:=by unfold kA;rw[a0e (by simp[h])]
 rw[this]
theorem vQ{s:ByteArray}(pre:List (TkS s))(x:TkS s)(h:isB x.1=true):bS (pre++[x])=bS pre:=by
 unfold bS;rw[a0K,a1J,a2H];have:[x.1].flatMap eU=[]:=by simp[eU,h]
 rw[this,a1l]
theorem vR{s:ByteArray}(pre:List (TkS s))(x:TkS s)(h:isB x.1=false):bS (pre++[x])=inc (bS pre) (fnd 1 2 x.1.2.2.toNat 29):=by
 unfold bS;rw[a0K,a1J,a2H];have:[x.1].flatMap eU=[fnd 1 2 x.1.2.2.toNat 29]:=by simp[eU,h]
 rw[this,lm]
theorem uH(n:Nat)(l:List Nat)(k:Nat):0<=(ir (List.replicate n 0) l).getD k 0/\(ir (List.replicate n 0) l).getD k 0<=(l.length:Int):=by
 rw[mY,lG];have:l.count k<=l.length:=a3x
 split<;>omega
theorem uO{s:ByteArray}(pre:List (TkS s))(k:Nat):0<=(iS pre).getD k 0/\(iS pre).getD k 0<=(pre.length:Int):=by
 have:=uH 286 ((pre.map Subtype.val).map kA) k;rw[a0N,a0N]at this;exact this
theorem qk{s:ByteArray}(pre:List (TkS s))(k:Nat):0<=(bS pre).getD k 0/\(bS pre).getD k 0<=(pre.length:Int):=by
 have h1:=uH 30 ((pre.map Subtype.val).flatMap eU) k;have h2:=wi (pre.map Subtype.val);rw[a0N]at h2;exact⟨h1.1,by have:=h1.2;unfold bS;omega⟩
set_option maxRecDepth 100000 in
theorem po(s:ByteArray)(w:World)(hs:s.size<=300)  :
  Calls Tryz.prog 119 #[.string s] w fun e w'=>(∃gl gd,e = .returned (.tuple #[.slice (some ⟨gl,0,none⟩) 286 286,.slice (some ⟨gd,0,none⟩) 30 30])/\ap w' w.heap.size (.slice (some ⟨gl,0,none⟩) 286 286) (gn (bi s.data.toList 0))/\ap w' w.heap.size (.slice (some ⟨gd,0,none⟩) 30 30) (cX (bi s.data.toList 0)))/\Below w.heap.size w w':=by
 obtain⟨i0,hi,hz0,hz1,hz2⟩:=a0r Tryz.infoInt;have hsI:(s.size:Int)<=300:=by omega
 have hmx:Tryz.prog.follows .mixedOrders=true:=by kernel_rfl
 refine(callsIn_wide (n:=6)).1 ?_;refine callsIn_of_wp_marks Tryz.func119 rfl trivial ?_ rfl;simp only[Tryz.ntmps119,a2p,a0y,a02,Nat.reduceAdd,Nat.reduceSub,Array.replicate_succ,Array.replicate_zero,List.push_toArray,List.append_toArray,a0R,a08]
 gi_wp2
 rename_i Q' K hKr
 suffices hK:∀(gl gd bl bd:Nat) (W:World),Sts w.heap.size w W (some gl) (some gd) (some (bl,.slice (some ⟨gl,0,none⟩) 286 286)) (some (bd,.slice (some ⟨gd,0,none⟩) 30 30)) ->
   K { tmps:=#[.string s,undef,.slice none 0 0,.slice none 0 0,.pointer (some ⟨bl,0,none⟩),.pointer (some ⟨bd,0,none⟩),undef,undef,undef,undef,.slice (some ⟨gl,0,none⟩) 286 286,.slice (some ⟨gd,0,none⟩) 30 30,undef,undef,undef,undef,undef,undef,undef,undef,undef,undef,undef,undef,undef,undef,undef,undef,undef,undef,undef,undef,undef,undef,undef,undef,undef,undef,undef,undef,undef,undef,undef,undef,undef,undef,undef,undef,undef,undef,undef,undef,undef,undef,undef,undef,undef,undef,undef],defers:=[] } W by
  clear hKr;have hs0:Sts w.heap.size w w.drew none none none none:=⟨(a0b _ _).drew,nofun,nofun,nofun,nofun,nofun,nofun,a0a _⟩;refine wpIn_region_any hmx ?_;change wpAnyIn _ _ _ _ _ _ _ _ _ (World.drew _);generalize w.drew=W at hs0 ⊢;have hs:=hs0;clear hs0;repeat' first
   | exact AllReadyIn.nil
   | refine AllReadyIn.cons rfl (fun K1 hK1=>?_) ?_
   | (refine nz rfl _ _ 104 rfl w.heap.size 3 i0 (.int .i64 0) 1 a0W hi hz0 hz1 .i64 .i64 286 286 286 rfl rfl rfl rfl (by rw[hz2];omega) (by unfold maxLen;omega) hs.2.2.2.2.2.2.2 ?_;intro g W hg ho hgr;have hs:=hs.make10 hgr hg (gN ho);refine hK1 _ _ ?_;clear hK1 K1 ho hgr hg)
   | (refine nz rfl _ _ 104 rfl w.heap.size 3 i0 (.int .i64 0) 1 a0W hi hz0 hz1 .i64 .i64 30 30 30 rfl rfl rfl rfl (by rw[hz2];omega) (by unfold maxLen;omega) hs.2.2.2.2.2.2.2 ?_;intro g W hg ho hgr;have hs:=hs.make11 hgr hg (gN ho);refine hK1 _ _ ?_;clear hK1 K1 ho hgr hg)
   | (refine eO 4 rfl ?_;have hs:=hs.box4 (.slice none 0 0);go_simp;refine hK1 _ _ ?_;clear hK1 K1;generalize W.alloc (.cells #[.slice none 0 0] 104)=V at hs ⊢;generalize W.heap.size=g at hs ⊢;revert V;intro W hs)
   | (refine eO 5 rfl ?_;have hs:=hs.box5 (.slice none 0 0);go_simp;refine hK1 _ _ ?_;clear hK1 K1;generalize W.alloc (.cells #[.slice none 0 0] 104)=V at hs ⊢;generalize W.heap.size=g at hs ⊢;revert V;intro W hs)
   | (refine E4 (Op.store 104 (.tmp 4) (.tmp 10)) rfl ?_;have hc:=(hs.2.2.2.1 _ _ rfl).2.cell;have hf:=(hs.2.2.2.1 _ _ rfl).2.frozen;have hs:=hs.fill4;go_simp;refine hK1 _ _ ?_;clear hK1 K1 hc hf;revert hs;generalize W.setCell ⟨_,0,none⟩ _=V;intro hs;revert V;intro W hs)
   | (refine E4 (Op.store 104 (.tmp 5) (.tmp 11)) rfl ?_;have hc:=(hs.2.2.2.2.1 _ _ rfl).2.cell;have hf:=(hs.2.2.2.2.1 _ _ rfl).2.frozen;have hs:=hs.fill5;go_simp;refine hK1 _ _ ?_;clear hK1 K1 hc hf;revert hs;generalize W.setCell ⟨_,0,none⟩ _=V;intro hs;revert V;intro W hs)
   | (refine wpAnyIn_done (by decide +kernel) ?_ _;exact hK _ _ _ _ _ hs)
   | refine wpAnyIn_ready (rs:=[0,1,2,3]) (by decide +kernel) (by simp) ?_
   | refine wpAnyIn_ready (rs:=[1,2,3]) (by decide +kernel) (by simp) ?_
   | refine wpAnyIn_ready (rs:=[2,3]) (by decide +kernel) (by simp) ?_
   | refine wpAnyIn_ready (rs:=[3]) (by decide +kernel) (by simp) ?_
   | refine wpAnyIn_ready (rs:=[4]) (by decide +kernel) (by simp) ?_
   | refine wpAnyIn_ready (rs:=[5]) (by decide +kernel) (by simp) ?_
   | refine wpAnyIn_ready (rs:=[2]) (by decide +kernel) (by simp) ?_
   | refine wpAnyIn_ready (rs:=[1,3]) (by decide +kernel) (by simp) ?_
   | refine wpAnyIn_ready (rs:=[1,4]) (by decide +kernel) (by simp) ?_
   | refine wpAnyIn_ready (rs:=[1]) (by decide +kernel) (by simp) ?_
   | refine wpAnyIn_ready (rs:=[1,2]) (by decide +kernel) (by simp) ?_
   | refine wpAnyIn_ready (rs:=[0,2,3]) (by decide +kernel) (by simp) ?_
   | refine wpAnyIn_ready (rs:=[0,3]) (by decide +kernel) (by simp) ?_
   | refine wpAnyIn_ready (rs:=[0]) (by decide +kernel) (by simp) ?_
   | refine wpAnyIn_ready (rs:=[0,2]) (by decide +kernel) (by simp) ?_
   | refine wpAnyIn_ready (rs:=[0,1,3]) (by decide +kernel) (by simp) ?_
   | refine wpAnyIn_ready (rs:=[0,1]) (by decide +kernel) (by simp) ?_
   | refine wpAnyIn_ready (rs:=[0,1,2]) (by decide +kernel) (by simp) ?_
 intro gl gd bl bd W hSt;refine hKr _ _ ?_;clear hKr;have hl0:=hSt.2.1 gl rfl;have hd0:=hSt.2.2.1 gd rfl;obtain⟨hb4,x40⟩:=hSt.2.2.2.1 bl _ rfl;obtain⟨hb5,x50⟩:=hSt.2.2.2.2.1 bd _ rfl;have hgg:gl≠gd:=hSt.2.2.2.2.2.1 gl gd rfl rfl;have hbb:bl≠bd:=hSt.2.2.2.2.2.2.1 bl _ bd _ rfl rfl;have hBw:=hSt.1;have hnw:=hSt.2.2.2.2.2.2.2;clear hSt
 gi_wp2_with (refine⟨trivial,?_⟩;gi_at_call 146;refine(callsIn_wide.2 (nh s _)).mono ?_;rintro e w' ⟨rfl,rfl⟩)
 have bN:=Boxed.new W 9 (.string s);have hA:Below W.heap.size W (W.alloc (.cells #[.string s] 9)):=(a0b _ W).alloc (a0a _) _;have lb4:bl<W.heap.size:=x40.lt;have lb5:bd<W.heap.size:=x50.lt;refine wpIn_rangeFunc_ownG rfl (by omega) (gf:=173) (lb:=#[.pointer (some ⟨W.heap.size,0,none⟩)]) rfl trivial (enters_of Tryz.func173 (by kernel_rfl) rfl)
  (pe 5 (by omega) W.heap.size s (by omega) _ bN) Bb (fun W l o o' _ h1 h2 _=>Ba W l o o' h1 h2) (a0b _ _) (fun _=>rfl)
  (fun(pre:List (TkS s)) X=>((((ap X w.heap.size (.slice (some ⟨gl,0,none⟩) 286 286) (iS pre)/\ap X w.heap.size (.slice (some ⟨gd,0,none⟩) 30 30) (bS pre))/\Boxed X bl 104 (.slice (some ⟨gl,0,none⟩) 286 286))/\Boxed X bd 104 (.slice (some ⟨gd,0,none⟩) 30 30))/\Below w.heap.size w X)/\Boxed X W.heap.size 9 (.string s))
  (fun _ _ _=>False)
  (OwnFrom.and (OwnFrom.and (OwnFrom.and (OwnFrom.and (OwnFrom.and (Own.from (wH _ _ iS) _) (Own.from (wH _ _ bS) _)) (Own.from (boxed_own _ _ _) _)) (Own.from (boxed_own _ _ _) _)) (ownFrom_below (a0a _) (by simp;omega))) (Own.from (boxed_own _ _ _) _))
  (fun _ _ _ _ _ hs _ _=>hs)
  ⟨⟨⟨⟨⟨hl0.later hA (a0a _),hd0.later hA (a0a _)⟩,Boxed.later x40 hA⟩,Boxed.later x50 hA⟩,hBw.trans (hA.mono hnw)⟩,bN⟩
  (fun x=>{ tmps:=#[.string s,undef,.slice none 0 0,.slice none 0 0,.pointer (some ⟨bl,0,none⟩),.pointer (some ⟨bd,0,none⟩),dW x.1,undef,undef,undef,.slice (some ⟨gl,0,none⟩) 286 286,.slice (some ⟨gd,0,none⟩) 30 30,.string s,.func (.func 173) #[] #[.pointer (some ⟨W.heap.size,0,none⟩)],dW x.1,undef,undef,undef,undef,undef,undef,undef,undef,undef,undef,undef,undef,undef,undef,undef,undef,undef,undef,undef,undef,undef,undef,undef,undef,undef,undef,undef,undef,undef,undef,undef,undef,undef,undef,undef,undef,undef,undef,undef,undef,undef,undef,undef,undef],defers:=[] }) ?assign ?body ?done ?stop
 case assign=>
  intro l x W K hK
  gi_wp2
  exact hK
 case body=>
  rintro l pre x X ⟨⟨⟨⟨⟨hl,hd⟩,x4⟩,x5⟩,hB⟩,hN⟩ hlt;have hc4:=x4.cell;have hc5:=x5.cell;have hll:=kz pre;have hdl:=i7 pre;have m1:=jk;have m2:=kY;have m3:=jj;cases hb:isB x.1
  ·
   have hk:isK x.1=true:=by have:=x.2.1;unfold okT at this;rw[hb]at this;simpa using this
   obtain⟨q1,q2,q3,q4⟩:=zu hk;have f1:x.1.2.1=((x.1.2.1.toNat:Nat):Int):=by omega
   have f2:x.1.2.2=((x.1.2.2.toNat:Nat):Int):=by omega
   have e2:dW x.1 = .iface 215 (.agg #[.int .i64 ((x.1.2.1.toNat:Nat):Int),.int .i64 ((x.1.2.2.toNat:Nat):Int)]):=by rw[←f1,←f2];exact my hk
   have hx1:=zG pre x hb;have hx2:=vR pre x hb;have b1:=uO pre (257+fnd 3 4 x.1.2.1.toNat 27);have b2:=qk pre (fnd 1 2 x.1.2.2.toNat 29);have HSp:=af (fun W=>xS x.1.2.1.toNat x.1.2.2.toNat W (by omega) (by omega) (by omega) (by omega));have k1:=iO 3 4 x.1.2.1.toNat 27;have k2:=iO 1 2 x.1.2.2.toNat 29;rw[e2];generalize x.1.2.1.toNat=y at *
   generalize x.1.2.2.toNat=z at *
   generalize fnd 3 4 y 27=p at *
   generalize fnd 1 2 z 29=q at *
   have hc1:=hl.at hll (show 257+p<286 by omega);generalize hya:(iS pre).getD (257+p) 0=ya at *
   generalize hza:(bS pre).getD q 0=za at *
   have hpI:(257:Int)+(p:Int)<286:=by omega
   have hqI:(q:Int)<30:=by omega
   have hyI:ya<=300:=by omega
   have hzI:za<=300:=by omega
   have hy0:0<=ya:=by omega
   have hz0':0<=za:=by omega
   have hne4:=bP x4 hl;have hne5:=bP x5 hl;have hne6:=bP x4 hd;have hne7:=bP x5 hd;have HX:Hid (∀Z,Below X.heap.size X Z->ap Z w.heap.size (.slice (some ⟨gl,0,none⟩) 286 286) (iS pre)/\ap Z w.heap.size (.slice (some ⟨gd,0,none⟩) 30 30) (bS pre)/\Boxed Z bl 104 (.slice (some ⟨gl,0,none⟩) 286 286)/\Boxed Z bd 104 (.slice (some ⟨gd,0,none⟩) 30 30)/\Boxed Z W.heap.size 9 (.string s)):=fun Z h=>⟨hl.later h (a0a _),hd.later h (a0a _),Boxed.later x4 h,Boxed.later x5 h,Boxed.later hN h⟩;have hgl:=hl.below.2;have hgd:=hd.below.2;have HPQ:=af (a0c (show 257+p<286 by omega) (show q<30 by omega));have H1:=af hx1;have H2:=af hx2;have HYa:=af hya;have HZa:=af hza;have HB:=af hB;have Hne:=af (a0c hne4 (a0c hne5 (a0c hne6 hne7)));have hBX:=hB.size;have hNW:=hN.lt;clear hx1 hx2 hya hza b1 b2 k1 k2 q1 q2 q3 q4 f1 f2 e2 hc1 hl hd x4 x5 hN hlt hB
   gi_wp2_with (refine⟨trivial,?_⟩;gi_at_call 149;refine(CallsIn.inRound l (callsIn_wide.2 (ae HSp _))).mono ?_;rintro e X1 ⟨rfl,hX1⟩;have hX1b:Below X.heap.size X X1:=ag ((a0b _ X).alloc (a0a _) _) hX1;have hs1:=hX1b.size;have hZ:Hid (∀v,Below X.heap.size X (X1.alloc (.cells v 217))):=fun v=>hX1b.alloc hs1 _;have z1:=fun v=>(ae HX _ (ae hZ v)).2.2.1.cell;have z2:=fun v=>(ae HX _ (ae hZ v)).2.2.2.1.cell;have z3:=fun v=>((ae HX _ (ae hZ v)).1.at (kz pre) (ae HPQ).1).1;have z4:=fun v=>((ae HX _ (ae hZ v)).1.at (kz pre) (ae HPQ).1).2.1;have z5:=fun v=>((ae HX _ (ae hZ v)).2.1.at (i7 pre) (ae HPQ).2).1;have z6:=fun v=>((ae HX _ (ae hZ v)).2.1.at (i7 pre) (ae HPQ).2).2.1;rw[ae HYa]at z3;rw[ae HZa]at z5;have n1:¬ X1.heap.size=gl:=(by omega);have n2:¬ gl=X1.heap.size:=(by omega);have n3:¬ gd=gl:=(fun e=>hgg e.symm);have HX1:=af hX1b;clear hX1 hX1b)
   refine(fun Z (hZZ:Below X.heap.size X Z)=>?_:∀Z,Below X.heap.size X Z->ownPostG _ _ _ _ _ _ _ _ ((Z.setCell ⟨gl,257+p,none⟩ (.int .i64 (ya+1))).setCell ⟨gd,q,none⟩ (.int .i64 (za+1)))) _ (ae hZ _);obtain⟨hl,hd,x4,x5,hN⟩:=ae HX Z hZZ;obtain⟨e4,e5,e6,e7⟩:=ae Hne;have e8:=jD hN hl;have e9:=jD hN hd;have hl2:ap ((Z.setCell ⟨gl,257+p,none⟩ (.int .i64 (ya+1))).setCell ⟨gd,q,none⟩ (.int .i64 (za+1))) w.heap.size (.slice (some ⟨gl,0,none⟩) 286 286) (iS (pre++[x])):=by
    have:=hl.put (j:=257+p) (kz pre) (ya+1);rw[ae H1];unfold inc;rw[ae HYa];exact this.setOther hgg.symm _
   have hd2:ap ((Z.setCell ⟨gl,257+p,none⟩ (.int .i64 (ya+1))).setCell ⟨gd,q,none⟩ (.int .i64 (za+1))) w.heap.size (.slice (some ⟨gd,0,none⟩) 30 30) (bS (pre++[x])):=by
    have:=(hd.setOther (g':=gl) (o:=257+p) hgg (.int .i64 (ya+1))).put (j:=q) (i7 pre) (za+1);rw[ae H2];unfold inc;rw[ae HZa];exact this
   exact⟨(((KeepsOthers.of_grownBy (dF hZZ) (fun _ _ e=>by cases e)).trans (KeepsOthers.setCell _ _ _)).trans (KeepsOthers.setCell _ _ _)).from _,fun _=>cj (cj hN e8 _) e9 _,⟨⟨⟨⟨⟨hl2,hd2⟩,cj (cj x4 e4 _) e6 _⟩,cj (cj x5 e5 _) e7 _⟩,ah (ah ((ae HB).trans (hZZ.mono hBX)) hl.below.1 _) hd.below.1 _⟩,cj (cj hN e8 _) e9 _⟩⟩
  ·
   obtain⟨q1,q2⟩:=uJ hb;have f1:x.1.1=((x.1.1.toNat:Nat):Int):=by omega
   have e2:dW x.1 = .iface 213 (.int .u8 ((x.1.1.toNat:Nat):Int)):=by rw[←f1];exact jF hb
   have hx1:=zF pre x hb;have hx2:=vQ pre x hb;have b1:=uO pre x.1.1.toNat
   rw[e2];generalize x.1.1.toNat=k at *
   have hc1:=hl.at hll (show k<286 by omega);generalize hya:(iS pre).getD k 0=ya at *
   have hkI:(k:Int)<286:=by omega
   have hyI:ya<=300:=by omega
   have hy0:0<=ya:=by omega
   have hPl:Hid (ap (X.setCell ⟨gl,k,none⟩ (.int .i64 (ya+1))) w.heap.size (.slice (some ⟨gl,0,none⟩) 286 286) (iS (pre++[x]))):=by
    have:=hl.put (j:=k) hll (ya+1);rw[hx1];unfold inc;rw[hya];exact this
   have hPd:Hid (ap (X.setCell ⟨gl,k,none⟩ (.int .i64 (ya+1))) w.heap.size (.slice (some ⟨gd,0,none⟩) 30 30) (bS (pre++[x]))):=by
    rw[hx2];exact hd.setOther hgg _
   have hne4:=bP x4 hl;have hne5:=bP x5 hl;obtain⟨c1,c2,c3,c4⟩:=hc1;clear hx1 hx2 hya b1 hlt q1 q2 f1 e2
   gi_wp2
   exact⟨(KeepsOthers.setCell _ _ _).from _,fun _=>cj hN (jD hN hl) _,⟨⟨⟨⟨⟨ae hPl,ae hPd⟩,cj x4 hne4 _⟩,cj x5 hne5 _⟩,ah hB c3 _⟩,cj hN (jD hN hl) _⟩⟩
 case done=>
  rintro D ys X hD hys ⟨⟨⟨⟨⟨hl,hd⟩,x4⟩,x5⟩,hB⟩,hN⟩ hK;have hc4:=x4.cell;have hc5:=x5.cell;have hll:=kz ys;have hdl:=i7 ys;have hfew:=yg s hs hys;have b1:=uO ys 256;have b2:=qk ys 0;have hL:iS ys=ir (List.replicate 286 0) ((bi s.data.toList 0).map kA):=by unfold iS;rw[hys]
  have hDd:bS ys=jM (bi s.data.toList 0):=by unfold bS jM;rw[hys]
  have hLC:inc (iS ys) 256=gn (bi s.data.toList 0):=by unfold gn;rw[hL]
  have hc1:=hl.at hll (show 256<286 by omega);have hne4:=bP x4 hl;have hne5:=bP x5 hl;have hne6:=bP x5 hd;have hne7:=bP x4 hd;have hD1:D≠gl:=fun e=>by subst e;exact tw hK hl rfl
  have hD2:D≠gd:=fun e=>by subst e;exact tw hK hd rfl
  have hDw:w.heap.size<=D:=by simp at hD;omega
  have hzb:(bS ys).getD 0 0<=300:=by omega
  have hposD:∀i,i<(bS ys).length->0<=(bS ys).getD i 0:=fun i _=>(qk ys i).1;generalize hya:(iS ys).getD 256 0=ya at *
  have hyI:ya<=300:=by omega
  have hy0:0<=ya:=by omega
  have hPl:ap (X.setCell ⟨gl,256,none⟩ (.int .i64 (ya+1))) w.heap.size (.slice (some ⟨gl,0,none⟩) 286 286) (gn (bi s.data.toList 0)):=by
   have:=hl.put (j:=256) hll (ya+1);rw[←hLC];unfold inc;rw[hya];exact this
  have hPd:ap (X.setCell ⟨gl,256,none⟩ (.int .i64 (ya+1))) w.heap.size (.slice (some ⟨gd,0,none⟩) 30 30) (bS ys):=hd.setOther hgg _;have hx5:=cj (o:=256) x5 hne5 (.int .i64 (ya+1));have hcx:=hx5.cell;have hKx:(X.setCell ⟨gl,256,none⟩ (.int .i64 (ya+1))).heap[D]?=some (.deferred (some [])):=(a0I _ _ _ D hD1).trans hK;have hBx:Below w.heap.size w (X.setCell ⟨gl,256,none⟩ (.int .i64 (ya+1))):=ah hB hl.below.1 _;obtain⟨c1,c2,c3,c4⟩:=hc1;have HM:=af (qZ (some ⟨gd,0,none⟩) 30 30 (bS ys) (X.setCell ⟨gl,256,none⟩ (.int .i64 (ya+1))) hdl (hPd.rowN hdl) (by omega) (by omega) hposD);have HUs:=af (Kg (bS ys));rw[hdl]at HUs;have HPl:=af hPl;have HPd:=af hPd;have HKx:=af hKx;have HBx:=af hBx;have hdz:=hPd.at hdl (show 0<30 by omega);obtain⟨d1,d2,d3,d4⟩:=hdz;have Hdb:=af hDd;have Hdl:=af hdl;clear hl hd x4 x5 hN hB hK hys hL hLC b1 hPl hPd hKx hBx hx5 hDd hdl hposD hfew hll c3 c4;by_cases hu:us (bS ys)=0
  ·
   have hm0:Hid (bT (bS ys) 30=0):=(ae HUs).2 hu;rw[ae hm0]at HM;generalize hza:(bS ys).getD 0 0=za at *
   have hz0':0<=za:=b2.1
   gi_wp2_with (refine⟨trivial,?_⟩;gi_at_call 150;refine(callsIn_wide.2 (ae HM)).mono ?_;rintro e x1 ⟨rfl,hx1⟩;rw[hx1];clear hx1)
   gi_region
   gi_wp2
   refine⟨by simp,.inl ⟨_,_,rfl,run_takeDeferred ((a0I _ _ _ D hD2).trans (ae HKx)),?_⟩⟩;have hKy:((X.setCell ⟨gl,256,none⟩ (.int .i64 (ya+1))).setCell ⟨gd,0,none⟩ (.int .i64 (za+1))).heap[D]?=some (.deferred (some [])):=(a0I _ _ _ D hD2).trans (ae HKx);refine⟨_,results_tmp2 rfl _ _ _,⟨gl,gd,rfl,?_,?_⟩,?_⟩
   · exact ownsRow_putObj (show ap _ _ _ _ from(ae HPl).setOther hgg.symm _) (.deferred none) hKy rfl
   ·
    have e1:cX (bi s.data.toList 0)=inc (bS ys) 0:=by
     unfold cX;rw[←ae Hdb,a0d hu]
    rw[e1];refine ownsRow_putObj (show ap _ _ _ _ from ?_) (.deferred none) hKy rfl;unfold inc;rw[hza];exact(ae HPd).put (j:=0) (ae Hdl) (za+1)
   · exact(ah (ae HBx) d3 _).drew.trans (belowK_b (w:=w) (a0a _) (World.drew _) D _ _ hDw hKy rfl rfl)
  ·
   have hm0:Hid (¬ bT (bS ys) 30=0):=fun h=>hu ((ae HUs).1 h);have hmb:(bT (bS ys) 30 == 0)=false:=by have:=ae hm0;simpa using this
   generalize bT (bS ys) 30=M at *
   gi_wp2_with (refine⟨trivial,?_⟩;gi_at_call 150;refine(callsIn_wide.2 (ae HM)).mono ?_;rintro e x1 ⟨rfl,hx1⟩;rw[hx1];clear hx1)
   gi_region
   gi_wp2
   refine⟨by simp,.inl ⟨_,_,rfl,run_takeDeferred (ae HKx),?_⟩⟩;refine⟨_,results_tmp2 rfl _ _ _,⟨gl,gd,rfl,?_,?_⟩,?_⟩
   · exact ownsRow_putObj (ae HPl) (.deferred none) (ae HKx) rfl
   ·
    have e1:cX (bi s.data.toList 0)=bS ys:=by
     unfold cX;rw[←ae Hdb,a0e hu]
    rw[e1];exact ownsRow_putObj (ae HPd) (.deferred none) (ae HKx) rfl
   · exact(ae HBx).drew.trans (belowK_b (w:=w) (a0a _) (World.drew _) D _ _ hDw (ae HKx) rfl rfl)
 case stop=>
  rintro D c pre W _ _ h _;exact h.elim
end Go.Proofs.YtfhdadkcophoaaaGreatDoor
namespace Go.Proofs.YtfhdadkcophoaaaGreatDoor
open Go.RowKit Corb
theorem Lz{l:List Int}(h:okC l):inC l=true:=by
 unfold inC;rw[a0Y];intro x hx;obtain⟨i,hi,rfl⟩:=List.mem_iff_getElem.1 hx;have:=h i hi;rw[show l.getD i 0=l[i] by simp[List.getD,hi]]at this;exact aB.2 this
theorem qR{l:List Int}{m:Nat}(hc:okC l)(hl:l.length<=300)(h1:1<=us l)(hU:us l<=p2 m)(hm:m<=14):iA l ((m:Int)+1)=dB ((m:Int)+1) l:=by
 unfold iA;rw[a0d];unfold tj;simp only[a0j,a0o];refine⟨⟨⟨hl,aB.2 (by omega)⟩,Lz hc⟩,aB.2 ?_⟩;rw[show((m:Int)+1).toNat=m+1 by omega,uU];omega
theorem J9(T:List Tk)(hT:T.length<=300):iA (gn T) 15=dB 15 (gn T):=by
 have h1:=Bj T;have h2:=BA;exact qR (m:=14) (Bi T hT) (by rw[gg];omega) h1.1 (by omega) (by omega)
theorem FA(T:List Tk)(hT:T.length<=300):iA (cX T) 15=dB 15 (cX T):=by
 have h1:=vP T;have h2:=BA;exact qR (m:=14) (vO T hT) (by rw[fB];omega) h1.1 (by omega) (by omega)
theorem D8(A:List Int)(h0:0<A.length)(h4:A.length<=400)(hA:∀x∈A,0<=x/\x<=15):iA (nP A) 7=bI A:=by
 have h1:=AE A h0 hA;have h2:=Mv;exact qR (m:=6) (AD A h4) (by rw[f8];omega) h1.1 (by omega) (by omega)
theorem ap.cut{w:World}{base n m cap:Nat}{a:Option Addr}{l:List Int}(hn:l.length=n)(h:ap w base (.slice a n cap) l)(hm:m<=n)(h0:0<n):ap w base (.slice a m cap) (l.take m):=by
 subst hn;rcases h.2 with⟨_,e⟩|⟨g,cap',cur,e,hb,hg,h1,h2,h3,h4⟩
 · omega
 ·
  simp only[a0J]at e;obtain⟨rfl,_,rfl⟩:=e;refine⟨by simp,.inr ⟨g,cap,cur,by rw[a0x];congr 1;omega,hb,hg,by rw[a0x];omega,h2,h3,?_⟩⟩;rw[a0x,List.map_take,←h4,a3t]
  congr 1
  omega
theorem nn{w:World}{base base' size n:Nat}{e:TypeId}{v:Value}{xs:List Value}(h:w.ownsRow base e size v n xs)(hb:base'<=base):w.ownsRow base' e size v n xs:=
 ⟨h.1,h.2.imp id fun⟨g,c,u,e,hbg,r⟩=>⟨g,c,u,e,a0D hb hbg,r⟩⟩
theorem ap.cap{w:World}{base n cap g:Nat}{l:List Int}(h:ap w base (.slice (some ⟨g,0,none⟩) n cap) l):n<=cap/\cap<=maxLen:=by
 rcases h.2 with⟨e,_⟩|⟨g',cap',cur,e,hb,hg,h1,h2,h3,h4⟩
 · cases e
 · simp only[a0J]at e;obtain⟨_,rfl,rfl⟩:=e;exact⟨h1,h2⟩
def gz(L D:List Int):List (Int×Int):=[((L.length:Int)-257,5),((D.length:Int)-1,5),(15,4)]
def jw(l:List Int)(k:Nat):List (Int×Int):=(bD.take k).map fun i=>(l.getD i 0,(3:Int))
theorem DJ(l:List Int)(k:Nat)(h:k<19):jw l (k+1)=jw l k++[(l.getD (bD.getD k 0) 0,3)]:=by
 unfold jw;have hk:k<bD.length:=h;rw[a05 hk,a0K];simp[List.getD,hk]
theorem GP(l:List Int)(k:Nat)(h:k<=19):(jw l k).length=k:=by unfold jw;have:bD.length=19:=rfl;simp;omega
theorem Al(L D:List Int)(h:am (bI (L++D))=true)(h19:(bI (L++D)).length=19)(hA:∀x∈L++D,0<=x/\x<=15):gz L D++jw (bI (L++D)) 19++gx (bI (L++D)) (L++D)=dJ L D:=by
 unfold dJ gz jw gx;rw[a0O]
 congr 2
 apply List.map_congr_left;intro x hx;have:=hA x hx;exact ly h (by rw[h19];omega)
theorem B8{w:World}{b base:Nat}{l:List Int}{C:Array Value}(h:pS w b base l C):∃a cap,w.cell? ⟨b,0,none⟩=some (.slice a l.length cap)/\bH w a l:=by
 obtain⟨⟨a,cap,ac,cc,q,sc,e,h1,h2,h3⟩,hr,_⟩:=h;refine⟨a,cap,?_,h1.1⟩;have:=hr 0 (.slice a l.length cap) (by rw[e];rfl);simpa using this
def nO:Array Value:=#[Value.slice none 0 0,Value.slice none 0 0,Value.int .i64 0,Value.int .i64 0,Value.int .i64 0,Value.int .i64 0,Value.int .i64 0,Value.int .i64 0,Value.int .i64 0,Value.int .i64 0,Value.int .i64 0,Value.int .i64 0,Value.int .i64 0,Value.int .i64 0,Value.int .i64 0,Value.int .i64 0,Value.int .i64 0,Value.int .i64 0,Value.slice none 0 0]
theorem yX(gL gD nL cL nD cD base:Nat)(L D:List Int)(w:World)(hnL:L.length=nL)(hnD:D.length=nD)(hL:ap w base (.slice (some ⟨gL,0,none⟩) nL cL) L)(hD:ap w base (.slice (some ⟨gD,0,none⟩) nD cD) D)(hl:nL+nD<=1000) :
  Calls Tryz.prog 145 #[.slice (some ⟨w.heap.size,0,none⟩) 2 2] (w.alloc (.cells #[.slice (some ⟨gL,0,none⟩) nL cL,.slice (some ⟨gD,0,none⟩) nD cD] 104)) fun e w'=>∃v,e = .returned v/\ap w' w.heap.size v (L++D)/\Below w.heap.size w w':=by
 have hb5:Below w.heap.size w (w.alloc (.cells #[.slice (some ⟨gL,0,none⟩) nL cL,.slice (some ⟨gD,0,none⟩) nD cD] 104)):=(a0b _ _).alloc (a0a _) _;have hR:gG (w.alloc (.cells #[.slice (some ⟨gL,0,none⟩) nL cL,.slice (some ⟨gD,0,none⟩) nD cD] 104)) w.heap.size base [(.slice (some ⟨gL,0,none⟩) nL cL,L.map (Value.int .i64)),(.slice (some ⟨gD,0,none⟩) nD cD,D.map (Value.int .i64))]:=by
  intro i hi
  match i,hi with
  | 0,_=>exact⟨by simp,_,hL.later hb5 (a0a _),a1Z .i64 _⟩
  | 1,_=>exact⟨by simp,_,hD.later hb5 (a0a _),a1Z .i64 _⟩
 have hlen:aF [(Value.slice (some ⟨gL,0,none⟩) nL cL,L.map (Value.int .i64)),(.slice (some ⟨gD,0,none⟩) nD cD,D.map (Value.int .i64))]=(L++D).length:=by simp[aF,bJ]
 refine(nQ w.heap.size base 2 2 _ _ rfl (by omega) (by omega) hR (by rw[hlen,a0i];omega)).mono ?_;rintro e x5 ⟨v,rfl,ho5,hb⟩;refine⟨v,rfl,?_,ag hb5 hb⟩;have hall:cz [(Value.slice (some ⟨gL,0,none⟩) nL cL,L.map (Value.int .i64)),(.slice (some ⟨gD,0,none⟩) nD cD,D.map (Value.int .i64))]=(L++D).map (Value.int .i64):=by
  simp only[cz,a0V,a2B,a0K,a1l]
 rw[hlen,hall]at ho5;exact ap.mono (base:=(w.alloc (.cells #[.slice (some ⟨gL,0,none⟩) nL cL,.slice (some ⟨gD,0,none⟩) nD cD] 104)).heap.size) ho5 (by simp)
set_option maxRecDepth 100000 in
theorem uM(gL gD nL cL nD cD base:Nat)(L D:List Int)(w:World)(hnL:L.length=nL)(hnD:D.length=nD)(hL:ap w base (.slice (some ⟨gL,0,none⟩) nL cL) L)(hD:ap w base (.slice (some ⟨gD,0,none⟩) nD cD) D)
  (l0:257<=nL) (l1:nL<=286) (d0:1<=nD) (d1:nD<=30) (kL:am L=true) (kD:am D=true) (hO:bY w) :
  Calls Tryz.prog 125 #[.slice (some ⟨gL,0,none⟩) nL cL,.slice (some ⟨gD,0,none⟩) nD cD] w fun e w'=>∃v,e = .returned v/\Pcs w' w.heap.size v (dJ L D)/\Below w.heap.size w w':=by
 obtain⟨i0,hi,hz0,hz1,hz2⟩:=a0r Tryz.infoInt;obtain⟨j0,hj,hy0,hy1,hy2⟩:=a0r Tryz.infoPiece;have HA:Hid (∀x∈L++D,0<=x/\x<=15):=by
  intro x hx;rcases a0S.1 hx with h|h
  · exact lr kL x h
  · exact lr kD x h
 obtain⟨nA,hnA⟩:∃nA,(L++D).length=nA:=⟨_,rfl⟩;have hnA':nA=nL+nD:=by rw[←hnA,a0i,hnL,hnD]
 have HF:=af (uL (L++D) (by omega) (by omega) (ae HA));have HS:=af (D8 (L++D) (by omega) (by omega) (ae HA));have HT:=af (Al L D (ae HF).2.1 (ae HF).1 (ae HA));have HCat:=af (yX gL gD nL cL nD cD base L D w hnL hnD hL hD (by omega));have HB:Hid (gz L D=[((nL:Int)-257,5),((nD:Int)-1,5),(15,4)]):=by show gz L D=_;unfold gz;rw[hnL,hnD]
 have nLI:(nL:Int)<=286:=by omega
 have nDI:(nD:Int)<=30:=by omega
 have nLI0:(257:Int)<=(nL:Int):=by omega
 have nDI0:(1:Int)<=(nD:Int):=by omega
 have nAI:(nA:Int)<=316:=by omega
 have HNA:Hid (1<=nA/\nA<=316):=by show _/\_;omega
 have HO:=af hO;clear hL hD kL kD l0 l1 d0 d1 hnL hnD hnA' hO;generalize hAe:L++D=A at *
 have HAn:=af hnA;clear hnA hAe;go_enter Tryz.func125,Tryz.ntmps125;go_wp2_with fail;refine(ae HCat).mono ?_;rintro e x1 ⟨v1,rfl,o1,b1⟩;obtain⟨a1,c1,rfl⟩:=o1.formN (ae HAn);obtain⟨g1,rfl⟩:=o1.somes (by have:=ae HAn;have:=ae HNA;omega);have O1:=af o1;have B1:=af b1;clear o1 b1 HCat
 go_wp2_with (at_make;refine a2Y _ rfl _ _ 104 rfl w.heap.size 3 i0 (.int .i64 0) 1 a0W hi hz0 hz1 .i64 .i64 _ _ 19 rfl rfl rfl rfl (by rw[hz2];omega) (by unfold maxLen;omega) (ae B1).size ?_;intro x2 hown hgrow);have hg1:=(ae O1).below.2;obtain⟨gC,hgC⟩:∃gC,x1.heap.size=gC:=⟨_,rfl⟩;have b2:=kj hgrow;have o2:=gN hown;rw[hgC]at hown o2 hg1;have hb2:=ag (ae B1) b2;have o1:=(ae O1).later b2 (a0a _);have hne:gC≠g1:=by omega
 rw[hgC];clear hown hgrow b2 O1 B1 hgC hg1
 go_loopw [8,20] (fun _ i wr=>∃k:Nat,k<=nA/\i = .int .i64 k/\ap wr w.heap.size (.slice (some ⟨g1,0,none⟩) nA c1) A/\ap wr w.heap.size (.slice (some ⟨gC,0,none⟩) 19 19) (ir (List.replicate 19 0) ((A.take k).map Int.toNat))/\Below w.heap.size w wr) (fun _ i _=>nA-(intOf i).toNat)
 case atStart=>exact⟨0,a0h _,rfl,o1,o2,hb2⟩
 case round=>
  obtain⟨k,hk,rfl,hA1,hC1,hbel⟩:=hrel;clear o1 o2 hb2;by_cases hlt:k<nA
  ·
   obtain⟨c0,_,_,_⟩:=hA1.at (ae HAn) hlt;have hin:A.getD k 0∈A:=by have:=ae HAn;simp[List.getD,show k<A.length by omega]
   have hyb:=ae HA _ hin;have hst:Hid ((A.take (k+1)).map Int.toNat=(A.take k).map Int.toNat++[(A.getD k 0).toNat]):=by
    show _=_;rw[cA A k (by rw[ae HAn];exact hlt),a0K];rfl
   have hln:(ir (List.replicate 19 0) ((A.take k).map Int.toNat)).length=19:=by rw[ia,a0A]
   obtain⟨y,hy⟩:=a0s hyb.1;rw[hy]at hst c0 hyb;rw[a0q]at hst;have hb:=uH 19 ((A.take k).map Int.toNat) y;have hlk:((A.take k).map Int.toNat).length<=nA:=by simp;omega
   obtain⟨d0,d1,d2,d3⟩:=hC1.at (j:=y) hln (by omega);have hP:=hC1.put (j:=y) hln ((ir (List.replicate 19 0) ((A.take k).map Int.toNat)).getD y 0+1);have hP2:Hid (∀u,ap (wr.setCell ⟨gC,y,none⟩ u) w.heap.size (.slice (some ⟨g1,0,none⟩) nA c1) A/\Below w.heap.size w (wr.setCell ⟨gC,y,none⟩ u)):=fun u=>⟨hA1.setOther hne u,ah hbel d2 u⟩;have HP:Hid (ap (wr.setCell ⟨gC,y,none⟩ (.int .i64 ((ir (List.replicate 19 0) ((A.take k).map Int.toNat)).getD y 0+1))) w.heap.size (.slice (some ⟨gC,0,none⟩) 19 19) (ir (List.replicate 19 0) ((A.take (k+1)).map Int.toNat))):=by
    show ap _ _ _ _;rw[ae hst,lm];exact hP
   generalize (ir (List.replicate 19 0) ((A.take k).map Int.toNat)).getD y 0=z at *
   have hyI:(y:Int)<19:=by omega
   have hzI:z<=400:=by have:=ae HNA;omega
   have hz0':0<=z:=hb.1;have Hk:=af hk;clear hP hC1 hA1 hbel hlk hb hyb hy hin hk hln d2 d3;go_wp2;go_roundw
   case rel=>exact⟨k+1,by have:=ae Hk;omega,by go_num,(ae hP2 _).1,ae HP,(ae hP2 _).2⟩
   case measure=>simp[intOf];omega
  ·
   have hkn:A.take k=A:=a0t (by rw[ae HAn];omega);rw[hkn]at hC1;have hC2:ap wr w.heap.size (.slice (some ⟨gC,0,none⟩) 19 19) (nP A):=hC1;have HL:=af (g9 (some ⟨gC,0,none⟩) 19 19 (nP A) 7 wr (f8 A) (hC2.rowN (f8 A)) (by omega));rw[ae HS]at HL;have O1:=af hA1;have B1:=af hbel;clear hkn hC1 hC2 hA1 hbel;go_wp2_with fail;refine(ae HL).mono ?_;rintro e x3 ⟨⟨v3,rfl,o3⟩,b3⟩;obtain⟨a3,c3,rfl⟩:=o3.formN (ae HF).1;have O1':=af ((ae O1).later b3 (a0a _));have B3:=af (ag (ae B1) b3);have HBk:=af (wQ a3 c3 19 w.heap.size (bI A) x3 (ae HF).1 ((cx (ae HF).1 (o3.own (ae HF).1)).mono (ae B1).size) (ae B3).size (by omega));clear o3 b3 HL O1 B1;go_wp2_with fail;refine(ae HBk).mono ?_;rintro e x4 ⟨⟨C,rfl,k4⟩,b4⟩;have O1:=af ((ae O1').later b4 (a0a _));have B4:=af (ag (ae B3) b4);have K4:=af k4;have HSz:=af k4.size;have HOne:=af k4.one;clear k4 b4 HBk O1' B3;have b5:Below x4.heap.size x4 ((x4.alloc (.cells nO 225)).setCells x4.heap.size 0 C.toList):=below_setCells (a0a _) _ _ _ ((a0b _ _).alloc (a0a _) _);have hth:(x4.alloc (.cells nO 225)).there x4.heap.size 0 19:=fO x4 nO _ 19 rfl;have hr5:=World.rangeAt_setCells_same (x4.alloc (.cells nO 225)) x4.heap.size 0 C.toList (by rw[a1E,ae HSz];exact hth);have hbk:pS ((x4.alloc (.cells nO 225)).setCells x4.heap.size 0 C.toList) x4.heap.size w.heap.size (bI A) C:=⟨(ae K4).later b5,hr5,by rw[size_setCells];simp⟩;have HTh:=af hth;have HB5:=af b5;have HBB:=af hbk;unfold nO at HTh HB5 HBB;clear b5 hth hr5 hbk K4;go_wp2_with (first
    | (refine wpList_store_mid rfl 225 (.tmp 9) (.tmp 33) rfl x4.heap.size 0 C rfl rfl (by rw[ae HSz];exact ae HTh) (by rw[ae HSz];exact Tryz.infoLenK) (ae HOne) ?_;generalize hx5:World.setCells _ x4.heap.size 0 C.toList=x5 at *;clear hx5 HTh)
    | (refine aP rfl 228 (.global 1) rfl 1 0 rfl DI _ (bY.later (bY.later (bY.later (ae HO) (ae B4)) (ae HB5)) ((a0b _ _).alloc (a0a _) _)).1 Tryz.underlying228 rfl Tryz.infoOrd ?_))
   have hp0:Pcs (x5.alloc (.cells #[.int .i64 ((nL:Int)-256-1),.int .i64 5,.int .i64 ((nD:Int)-1),.int .i64 5,.int .i64 15,.int .i64 4] 146)) x5.heap.size (.slice (some ⟨x5.heap.size,0,none⟩) 3 3) (gz L D++jw (bI A) 0):=by
    have e0:gz L D++jw (bI A) 0=[((nL:Int)-256-1,5),((nD:Int)-1,5),(15,4)]:=by rw[ae HB];simp only[jw,List.take_zero,a1F,a1l];congr 2;omega
    rw[e0];exact a1a x5 #[.int .i64 ((nL:Int)-256-1),.int .i64 5,.int .i64 ((nD:Int)-1),.int .i64 5,.int .i64 15,.int .i64 4] 3 (a0a _) (by unfold maxLen;omega) rfl
   have hA6:Below x5.heap.size x5 (x5.alloc (.cells #[.int .i64 ((nL:Int)-256-1),.int .i64 5,.int .i64 ((nD:Int)-1),.int .i64 5,.int .i64 15,.int .i64 4] 146)):=(a0b _ _).alloc (a0a _) _;have O5:=af ((ae O1).later (ae HB5) (a0a _));have B5:=af (ag (ae B4) (ae HB5));generalize x5.alloc (.cells #[.int .i64 ((nL:Int)-256-1),.int .i64 5,.int .i64 ((nD:Int)-1),.int .i64 5,.int .i64 15,.int .i64 4] 146)=x6 at *
   generalize x4.heap.size=b9 at *
   clear HB5 B4 O1
   go_loopw [10,12,46] (fun o _ i wr=>∃j:Nat,j<=19/\i = .int .i64 j/\Pcs wr x5.heap.size o (gz L D++jw (bI A) j)/\Below x5.heap.size x5 wr) (fun _ _ i _=>19-(intOf i).toNat)
   case atStart=>exact⟨0,by omega,rfl,hp0,hA6⟩
   case round=>
    obtain⟨j,hj19,rfl,hp,hbel⟩:=hrel;clear hp0 hA6 x6;have hbk:=(ae HBB).later hbel;have hlk:Hid ((gz L D++jw (bI A) j).length=3+j):=by show _=_;rw[a0i,GP _ _ hj19];rfl
    have hbs:=hbel.size;by_cases hlt:j<19
    ·
     have hix:=DK j hlt;have hol:=GT j hlt;have hst:Hid (gz L D++jw (bI A) (j+1)=(gz L D++jw (bI A) j)++[((bI A).getD (bD.getD j 0) 0,3)]):=by show _=_;rw[DJ (bI A) j hlt,a0O]
     obtain⟨a7,cap7,hcb,hI7⟩:=B8 hbk;rw[(ae HF).1]at hcb;obtain⟨g7,o7,rfl,hg7,hc7⟩:=hI7 (by rw[(ae HF).1];omega);have d7:=hc7 (bD.getD j 0) (by rw[(ae HF).1];exact hol);have hyb:=(ae HF).2.2 (bD.getD j 0) hol;generalize (bI A).getD (bD.getD j 0) 0=y at *
     generalize bD.getD j 0=q at *
     have hqI:(q:Int)<19:=by omega
     have hjI:(j:Int)<19:=by omega
     have hlen1:Hid ((gz L D++jw (bI A) j).length+1<=maxLen/\((gz L D++jw (bI A) j).length+1)*16<=140737488355328):=by
      show _/\_;rw[ae hlk];unfold maxLen;omega
     have Hj:=af hlt;clear hbk hc7 hol hI7 hyb hj19 hlt;go_wp2_with (at_builtin;refine a0F _ rfl _ _ 143 rfl x5.heap.size 146 j0 (.agg #[.int .i64 0,.int .i64 0]) 2 16 a1h hj hy0 hy1 hy2 rfl (by decide) _ _ _ rfl (a0m hp _) ⟨wr.heap.size,0,none⟩ 1 1 [.int .i64 y,.int .i64 3] rfl rfl (pP wr _ _ _) (pO _ _) (ae hlen1).1 (ae hlen1).2 (ay hbs _) ?_;intro v' x2 hown hgrow hnil;clear hnil);have hb2:=aK (v:=u10) hgrow hp (a0a _) hbs hbel;have hq2:=kH hown;rw[←ae hst]at hq2;exact⟨⟨j+1,by have:=ae Hj;omega,by go_num,hq2,hb2⟩,by have:=ae Hj;simp[intOf];omega⟩
    ·
     obtain rfl:j=19:=by omega
     have HEach:=af (Cp (some ⟨g1,0,none⟩) c1 nA b9 w.heap.size A (bI A) C wr (ae HAn) (((ae O5).later hbel (a0a _)).rowN (ae HAn)) (by have:=ae HNA;omega) hbk (by rw[(ae HF).1];omega) (fun i hi=>by rw[(ae HF).1];have:=ae HA (A.getD i 0) (by simp[List.getD,hi]);omega));obtain⟨ga,ca,rfl⟩:∃ga ca,u10 = .slice (some ⟨ga,0,none⟩) 22 ca:=by
      obtain⟨g,c,e⟩:=ru hp (by rw[ae hlk];omega);rw[ae hlk]at e;exact⟨g,c,e⟩
     have HP:=af hp;have HBel:=af hbel;clear hp hbel hbk hlt hj19;go_wp2_with fail;refine(ae HEach).mono ?_;rintro e x7 ⟨v7,rfl,hp7,b7⟩;have hl7:Hid ((gx (bI A) A).length=nA):=by show _=_;unfold gx;rw[a0N];exact ae HAn
     obtain⟨ga7,ca7,rfl⟩:∃ga ca,v7 = .slice (some ⟨ga,0,none⟩) nA ca:=by
      obtain⟨g,c,e⟩:=ru hp7 (by rw[ae hl7];have:=ae HNA;omega);rw[ae hl7]at e;exact⟨g,c,e⟩
     have HN7:=af (hp7.newsN (ae hl7));have HP8:=af (eG (ae HP) b7);have hbs7:x5.heap.size<=x7.heap.size:=a0D (ae HBel).size b7.size;have HB7:=af (ag (ae HBel) b7);have bd:Hid ((gz L D++jw (bI A) 19).length+nA<=maxLen/\((gz L D++jw (bI A) 19).length+nA)*16<=140737488355328):=by
      show _/\_;rw[ae hlk];have:=ae HNA;unfold maxLen;omega
     clear hp7 b7 HEach;go_wp2_with (at_builtin;refine a0F _ rfl _ _ 143 rfl x5.heap.size 146 j0 (.agg #[.int .i64 0,.int .i64 0]) 2 16 a1h hj hy0 hy1 hy2 rfl (by decide) _ _ _ rfl (ae HP8) ⟨ga7,0,none⟩ nA ca7 (aL (gx (bI A) A)) rfl (by rw[jA,ae hl7]) (ae HN7) (fI _) (ae bd).1 (ae bd).2 hbs7 ?_;intro v' x8 hown hgrow hnil;clear hnil);go_ret;have hb8:Below x5.heap.size x5 x8:=(ae HB7).grown hgrow hbs7 (fun j hj=>(a0C (ae HP8) j hj).1);refine⟨_,rfl,?_,ag (ae B5) hb8⟩;rw[←ae HT];have h9:Pcs x8 x5.heap.size v' ((gz L D++jw (bI A) 19)++gx (bI A) A):=by
      show World.ownsRow _ _ _ _ _ _ _;rw[dr,a0i,ae hl7];exact hown
     exact nn h9 (ae B5).size
theorem DO(T:List Tk)(hT:T.length<=300)(hok:∀t∈T,okT t=true):[(1,1),(2,2)]++(dJ (cw T) (dw T)++(T.flatMap (pcT (cw T) (dw T))++[pcS (cw T) 256]))=jR T:=by
 unfold jR;rw[oI (jy T hT) (lw T hT) _ (fun t ht=>rq T hT hok t ht),ly (jy T hT) (by have:=(kC T hT).1;omega)]
theorem ue(v1 v2 v3:Value)(A B C:List (Int×Int))(base:Nat)(w:World)(h1:Pcs w base v1 A)(h2:Pcs w base v2 B)(h3:Pcs w base v3 C)(hl:A.length+(B.length+C.length)<=4000) :
  Calls Tryz.prog 124 #[.slice (some ⟨w.heap.size,0,none⟩) 3 3] (w.alloc (.cells #[v1,v2,v3] 143)) fun e w'=>∃v,e = .returned v/\Pcs w' w.heap.size v (A++(B++C))/\Below w.heap.size w w':=by
 have hb5:Below w.heap.size w (w.alloc (.cells #[v1,v2,v3] 143)):=(a0b _ _).alloc (a0a _) _;have hR:fx (w.alloc (.cells #[v1,v2,v3] 143)) w.heap.size base [(v1,aL A),(v2,aL B),(v3,aL C)]:=by
  intro i hi
  match i,hi with
  | 0,_=>exact⟨by simp,_,h1.later hb5 (a0a _),fI _⟩
  | 1,_=>exact⟨by simp,_,h2.later hb5 (a0a _),fI _⟩
  | 2,_=>exact⟨by simp,_,h3.later hb5 (a0a _),fI _⟩
 have hlen:aE [(v1,aL A),(v2,aL B),(v3,aL C)]=(A++(B++C)).length:=by
  simp only[aE,bu,a0p,a1F,a0H,a3n,jA,a0i];omega
 refine(vI w.heap.size base 3 3 _ _ rfl (by omega) (by omega) hR (by rw[hlen,a0i,a0i];omega)).mono ?_;rintro e x5 ⟨v,rfl,ho5,hb⟩;refine⟨v,rfl,?_,ag hb5 hb⟩;have hall:dk [(v1,aL A),(v2,aL B),(v3,aL C)]=aL (A++(B++C)):=by
  simp only[dk,a0V,a2B,dr,a1l]
 rw[hlen,hall]at ho5;exact nn (base:=(w.alloc (.cells #[v1,v2,v3] 143)).heap.size) ho5 (by simp)
set_option maxRecDepth 100000 in
theorem wG(s:ByteArray)(w:World)(hs:s.size<=300)(hO:bY w) :
  Calls Tryz.prog 87 #[.string s] w fun e w'=>e = .returned (.string ⟨(oq s).toArray⟩)/\Below w.heap.size w w':=by
 have hI:¬ (300:Int)<(s.size:Int):=by omega
 have hmix:Tryz.prog.follows .mixedOrders=true:=by kernel_rfl
 have HS:=af hs;have HO:=af hO;have HFC:=af (po s w hs);obtain⟨T,hT⟩:∃T,bi s.data.toList 0=T:=⟨_,rfl⟩;have HTl:Hid (T.length<=300):=by show _<=_;rw[←hT];exact kQ s hs
 have HTo:Hid (∀t∈T,okT t=true):=by rw[←hT];exact fW s
 have HOT:Hid (oq s=bV (jR T)):=by show oq s=_;unfold oq;rw[hT]
 have HT:=af hT;rw[hT]at HFC;clear hs hO hT;go_enter Tryz.func87,Tryz.ntmps87;go_wp2_with fail;refine(ae HFC).mono ?_;rintro e x1 ⟨⟨gl,gd,rfl,o1,o2⟩,b1⟩;have HL1:=af (g9 (some ⟨gl,0,none⟩) 286 286 (gn T) 15 x1 (gg T) (o1.rowN (gg T)) (by omega));rw[J9 T (ae HTl)]at HL1;have O2:=af o2;have B1:=af b1;clear o1 o2 b1 HFC;go_wp2_with fail;refine(ae HL1).mono ?_;rintro e x2 ⟨⟨v2,rfl,o3⟩,b2⟩;have hn2:=(J6 T (ae HTl)).1;obtain⟨a2,c2,rfl⟩:=o3.formN hn2;obtain⟨g2,rfl⟩:=o3.somes (by omega);have HC2:=af (oR g2 0 c2 286 257 (dB 15 (gn T)) x2 hn2 (fun i hi=>by rw[a0G];exact(o3.at hn2 hi).1) o3.cap.1 (by omega) (by omega));have e2:eM (dB 15 (gn T)) 257 286=(cw T).length:=by unfold cw;rw[i6,hn2]
 rw[e2]at HC2;have O3:Hid (ap x2 w.heap.size (.slice (some ⟨g2,0,none⟩) (cw T).length c2) (cw T)):=by
  have h9:=o3.cut (m:=(cw T).length) hn2 (by have:=kC T (ae HTl);omega) (by omega);have e3:(dB 15 (gn T)).take (cw T).length=cw T:=by rw[←e2];unfold cw mJ;rw[hn2]
  rw[e3]at h9;exact h9.mono (ae B1).size
 have O2':=af ((ae O2).later b2 (a0a _));have B2:=af (ag (ae B1) b2);have HLl:=af (kC T (ae HTl));obtain⟨nL,hnL⟩:∃n,(cw T).length=n:=⟨_,rfl⟩;rw[hnL]at HC2 O3 HLl;have HnL:=af hnL;clear hnL e2 hn2 o3 b2 HL1 O2 B1;have HL2:=af (g9 (some ⟨gd,0,none⟩) 30 30 (cX T) 15 x2 (fB T) ((ae O2').rowN (fB T)) (by omega));rw[FA T (ae HTl)]at HL2;clear O2';go_wp2_with fail;refine(ae HC2).mono ?_;rintro e x3 ⟨rfl,hx3⟩;rw[hx3];clear hx3 x3 HC2;go_wp2_with fail;refine(ae HL2).mono ?_;rintro e x3 ⟨⟨v3,rfl,o4⟩,b3⟩;have hn3:=(AK T (ae HTl)).1;obtain⟨a3,c3,rfl⟩:=o4.formN hn3;obtain⟨g3,rfl⟩:=o4.somes (by omega);have HC3:=af (oR g3 0 c3 30 1 (dB 15 (cX T)) x3 hn3 (fun i hi=>by rw[a0G];exact(o4.at hn3 hi).1) o4.cap.1 (by omega) (by omega));have e2:eM (dB 15 (cX T)) 1 30=(dw T).length:=by unfold dw;rw[i6,hn3]
 rw[e2]at HC3;have O4:Hid (ap x3 w.heap.size (.slice (some ⟨g3,0,none⟩) (dw T).length c3) (dw T)):=by
  have h9:=o4.cut (m:=(dw T).length) hn3 (by have:=nl T (ae HTl);omega) (by omega);have e3:(dB 15 (cX T)).take (dw T).length=dw T:=by rw[←e2];unfold dw mJ;rw[hn3]
  rw[e3]at h9;exact h9.mono (ae B2).size
 have O3':=af ((ae O3).later b3 (a0a _));have B3:=af (ag (ae B2) b3);have HDl:=af (nl T (ae HTl));obtain⟨nD,hnD⟩:∃n,(dw T).length=n:=⟨_,rfl⟩;rw[hnD]at HC3 O4 HDl;have HnD:=af hnD;clear hnD e2 hn3 o4 b3 HL2 O3 B2;go_wp2_with fail;refine(ae HC3).mono ?_;rintro e x4 ⟨rfl,hx4⟩;rw[hx4];clear hx4 x4 HC3;have HBL:=af (oU (some ⟨g2,0,none⟩) c2 nL w.heap.size (cw T) x3 (ae HnL) (cx (ae HnL) ((ae O3').own (ae HnL))) (ae B3).size (by have:=ae HLl;omega));go_wp2_with fail;refine(ae HBL).mono ?_;rintro e x4 ⟨⟨C1,rfl,k1⟩,b4⟩;have O3:=af ((ae O3').later b4 (a0a _));have O4':=af ((ae O4).later b4 (a0a _));have B4:=af (ag (ae B3) b4);have K1:=af k1;clear k1 b4 HBL O3' O4 B3;have HBD:=af (mN (some ⟨g3,0,none⟩) c3 nD w.heap.size (dw T) x4 (ae HnD) (cx (ae HnD) ((ae O4').own (ae HnD))) (ae B4).size (by have:=ae HDl;omega));go_wp2_with fail;refine(ae HBD).mono ?_;rintro e x5 ⟨⟨C2,rfl,k2⟩,b5⟩;have O3':=af ((ae O3).later b5 (a0a _));have O4:=af ((ae O4').later b5 (a0a _));have B5:=af (ag (ae B4) b5);have K1':=af ((ae K1).later b5);have K2:=af k2;have HBu:=af (j7 (ae K1') (ae K2));have hsz1:=(ae K1').size;have hsz2:=(ae K2).size;have HSz:Hid ((C1++C2).size=38):=by show _=_;rw[a16,hsz1,hsz2]
 have H1C:Hid ((C1++C2).all (·.oneCell')=true):=by show _=true;rw[Array.all_append,(ae K1').one,(ae K2).one];rfl
 have HTh:Hid ((x5.alloc (.cells iL 157)).there x5.heap.size 0 38):=fO x5 iL _ 38 rfl;have hb6:Hid (Below x5.heap.size x5 ((x5.alloc (.cells iL 157)).setCells x5.heap.size 0 (C1++C2).toList)):=below_setCells (a0a _) _ _ _ ((a0b _ _).alloc (a0a _) _);have hr6:Hid (((x5.alloc (.cells iL 157)).setCells x5.heap.size 0 (C1++C2).toList).rangeAt x5.heap.size 0 (C1++C2).toList):=World.rangeAt_setCells_same (x5.alloc (.cells iL 157)) x5.heap.size 0 (C1++C2).toList (by rw[a1E,ae HSz];exact ae HTh);have hs6:Hid (x5.heap.size<((x5.alloc (.cells iL 157)).setCells x5.heap.size 0 (C1++C2).toList).heap.size):=by show _<_;rw[size_setCells];simp
 unfold iL at HTh hb6 hr6 hs6;clear hsz1 hsz2 k2 b5 K1 O3 O4' B4 HBD;go_wp2_with (first
  | (refine im rfl (.tmp 21) (.tmp 23) rfl C1 C2 rfl rfl (ae HBu) ?_)
  | (refine wpList_store_mid rfl 157 (.tmp 5) (.tmp 24) rfl x5.heap.size 0 (C1++C2) rfl rfl (by rw[ae HSz];exact ae HTh) (by rw[ae HSz];exact Tryz.infoBooks) (ae H1C) ?_;generalize hx6:World.setCells _ x5.heap.size 0 (C1++C2).toList=x6 at *;clear hx6 HTh))
 have hB6:=ag (ae B5) (ae hb6);have HSW:Hid (∀W,Below x6.heap.size x6 W->W.rangeAt x5.heap.size 0 (C1++C2).toList):=fun W h=>iC (ae hr6) h (ae hs6);have hD6:Below x6.heap.size x6 x6.drew:=(a0b _ x6).drew;have hi1:(Tryz.prog.info? 157).map (·.size)=some (C1++C2).size:=by rw[ae HSz];exact Tryz.infoBooks
 have B6:=af hB6;have O36:=af ((ae O3').later (ae hb6) (a0a _));have O46:=af ((ae O4).later (ae hb6) (a0a _));have HBk:Hid (db x6 w.heap.size (cw T) (dw T) (C1++C2)):=⟨C1,C2,rfl,(ae K1').later (ae hb6),(ae K2).later (ae hb6)⟩;clear hB6 O3' O4 K1' K2 hb6 B5;refine wp_region_held_drew (S:=fun W=>W.rangeAt x5.heap.size 0 (C1++C2).toList) hmix (ae HSW _ hD6) (fun hS=>?_);refine ai 1 (.slice (some ⟨g2,0,none⟩) nL c2) rfl (by kernel_rfl) (fun _ _ _ h=>h) rfl (?_) hS ?_
 · intro W hSw;go_simp
 refine ai 2 (.slice (some ⟨g3,0,none⟩) nD c3) rfl (by kernel_rfl) (fun _ _ _ h=>h) rfl (?_) hS ?_
 · intro W hSw;go_simp
 refine wpAnyH_take (i:=4) (v:=.agg (C1++C2)) rfl (by kernel_rfl) (by kernel_rfl) (by kernel_rfl) (fun _ _ _ h=>h) (cB (by rfl) 157 (.tmp 5) rfl x5.heap.size 0 rfl (C1++C2) _ (fun _ h=>h) a22 rfl hi1) hS ?_;refine ai 5 (.string s) rfl (by kernel_rfl) (fun _ _ _ h=>h) rfl (?_) hS ?_
 · intro W hSw;go_simp
 refine aj 0 (by kernel_rfl) rfl fun K hK=>?_;go_simp;go_at_call 116;refine(iN 2 _).mono ?_;rintro e x7 ⟨rfl,hx7⟩;have hB7:Below x6.heap.size x6 x7:=by rw[hx7];exact hD6.alloc (by simp) _
 have hP7:Pcs x7 x6.heap.size (.slice (some ⟨x6.heap.size,0,none⟩) 2 2) [(1,1),(2,2)]:=by
  rw[hx7];exact a1a x6.drew #[.int .i64 1,.int .i64 1,.int .i64 2,.int .i64 2] 2 (a0a _) (by unfold maxLen;omega) rfl
 have HLT:=af (uM g2 g3 nL c2 nD c3 w.heap.size (cw T) (dw T) x7 (ae HnL) (ae HnD) ((ae O36).later hB7 (a0a _)) ((ae O46).later hB7 (a0a _)) (ae HLl).1 (ae HLl).2 (ae HDl).1 (ae HDl).2 (jy T (ae HTl)) (lw T (ae HTl)) ((bY.later (ae HO) (ae B6)).later hB7));refine Shut.out hK _ _ (ae HSW _ hB7) (fun hS2=>?_);clear hK K hx7;refine aj 3 (by kernel_rfl) rfl fun K hK=>?_;go_simp;go_at_call 125;refine(ae HLT).mono ?_;rintro e x8 ⟨v8,rfl,hP8,b8⟩;obtain⟨n8,hn8⟩:∃n,(dJ (cw T) (dw T)).length=n:=⟨_,rfl⟩;obtain⟨a8,c8,rfl⟩:=hP8.formN hn8;have hB8:Below x6.heap.size x6 x8:=ag hB7 b8;have hP7':=hP7.later b8 (a0a _);have hP8':Pcs x8 x6.heap.size (.slice a8 n8 c8) (dJ (cw T) (dw T)):=nn hP8 hB7.size;have HPA:=af (rz s w.heap.size (cw T) (dw T) (C1++C2) x8 (ae HS) ((ae HBk).later hB8) (by have:=ae HLl;have:=ae HnL;omega) (by have:=ae HDl;have:=ae HnD;omega) (by have:=ae HLl;have:=ae HnL;omega) (by rw[ae HT];exact fun t ht=>rq T (ae HTl) (ae HTo) t ht));rw[ae HT]at HPA;refine Shut.out hK _ _ (ae HSW _ hB8) (fun hS3=>?_);clear hK K hP7 hP8 b8 HLT hB7 hS2;refine aj 6 (by kernel_rfl) rfl fun K hK=>?_;go_simp;go_at_call 118;refine(ae HPA).mono ?_;rintro e x9 ⟨v9,rfl,hP9,b9⟩;obtain⟨n9,hn9⟩:∃n,(T.flatMap (pcT (cw T) (dw T))++[pcS (cw T) 256]).length=n:=⟨_,rfl⟩;obtain⟨a9,c9,rfl⟩:=hP9.formN hn9;have hB9:Below x6.heap.size x6 x9:=ag hB8 b9;have p7:=hP7'.later b9 (a0a _);have p8:=hP8'.later b9 (a0a _);have p9:Pcs x9 x6.heap.size (.slice a9 n9 c9) (T.flatMap (pcT (cw T) (dw T))++[pcS (cw T) 256]):=nn hP9 hB8.size;refine Shut.out hK _ _ (ae HSW _ hB9) (fun hS4=>?_);clear hK K hP7' hP8' hP9 b9 HPA hB8 hS3;have hEq:=DO T (ae HTl) (ae HTo);have hOk:=pI T (ae HTl) (ae HTo);have hLn:(jR T).length<=4000:=by
  have:=hOk;unfold lOk at this;simp only[a0j,a0o]at this;exact this.2
 have HC:=af (ue (.slice (some ⟨x6.heap.size,0,none⟩) 2 2) (.slice a8 n8 c8) (.slice a9 n9 c9) [(1,1),(2,2)] (dJ (cw T) (dw T)) (T.flatMap (pcT (cw T) (dw T))++[pcS (cw T) 256]) x6.heap.size x9 p7 p8 p9 (by have h9:=hLn;rw[←hEq]at h9;simp only[a0i]at h9 ⊢;omega));rw[hEq]at HC;have hB10:Below x6.heap.size x6 (x9.alloc (.cells #[.slice (some ⟨x6.heap.size,0,none⟩) 2 2,.slice a8 n8 c8,.slice a9 n9 c9] 143)):=hB9.alloc hB9.size _;have HOk:=af (a0c hOk hLn);clear p7 p8 p9 hEq hOk hLn hn8 hn9;refine aj 7 (by kernel_rfl) rfl fun K hK=>?_;go_simp;refine Shut.out hK _ _ (ae HSW _ hB10) (fun hS5=>?_);clear hK K;refine aj 8 (by kernel_rfl) rfl fun K hK=>?_;go_simp;go_at_call 124;refine(ae HC).mono ?_;rintro e x11 ⟨v11,rfl,hP11,b11⟩;have hB11:=ag hB9 b11;obtain⟨a11,c11,rfl⟩:=hP11.form;refine Shut.out hK _ _ (ae HSW _ hB11) (fun hS6=>?_);clear hK K;have HBP:=af (ec a11 c11 (jR T) x11 hP11.row (by have:=(ae HOk).2;omega));rw[dn (ae HOk).1]at HBP;refine aj 9 (by kernel_rfl) rfl fun K hK=>?_;go_simp;go_at_call 113;refine(ae HBP).mono ?_;rintro e x12 ⟨rfl,b12⟩;have hB12:=ag hB11 b12;refine Shut.out hK _ _ (ae HSW _ hB12) (fun hS7=>?_);clear hK K;refine aj 10 (by kernel_rfl) rfl fun K hK=>?_;go_simp;refine Shut.out hK _ _ (ae HSW _ hB12) (fun hS8=>?_);clear hK K;refine wpAnyH_done (by kernel_rfl) ?_ _;have HBf:=af (ag (ae B6) hB12);clear hB12 hB11 hB10 hB9 hS hS4 hS5 hS6 hS7 hS8 hP11;generalize hR:bV (jR T)=R at *
 clear hR;go_wp2;go_ret;exact⟨by rw[ae HOT];rfl,ae HBf⟩
def kF(s:ByteArray):List UInt8:=if s.size<=300 then oq s else []
theorem qD(s:ByteArray)(w:World)(hs:s.size<=1048576)(hO:bY w) :
  Calls Tryz.prog 87 #[.string s] w fun e w'=>e = .returned (.string ⟨(kF s).toArray⟩)/\Below w.heap.size w w':=by
 by_cases h:s.size<=300
 · have HF:Hid (kF s=oq s):=a0d h;rw[ae HF];exact wG s w h hO
 ·
  have hI:(300:Int)<(s.size:Int):=by omega
  have HF:Hid (kF s=[]):=a0e h;clear h hO;go_enter Tryz.func87,Tryz.ntmps87;go_wp2;go_ret;exact⟨by rw[ae HF];rfl,a0b _ _⟩
end Go.Proofs.YtfhdadkcophoaaaGreatDoor
