/- Of what the proof is made: 10 texts, one behind the other. -/
import Derived.Test.YtkpfkgoiaicgbaaGreatDoorM25
import Derived.Test.YtkpfkgoiaicgbaaGreatDoorM32
import Derived.Test.YtkpfkgoiaicgbaaGreatDoorM14
import Derived.Deep.RegionHeld3
import Derived.Deep.DeepCutAuto
import Derived.Test.YtkpfkgoiaicgbaaGreatDoorM20
import Derived.Test.YtkpfkgoiaicgbaaGreatDoorM21
import Derived.Test.YtkpfkgoiaicgbaaGreatDoorM5
import Derived.Test.YtkpfkgoiaicgbaaGreatDoorM13
import Derived.Test.YtkpfkgoiaicgbaaGreatDoorM26
import Derived.Test.YtkpfkgoiaicgbaaGreatDoorM11
import Derived.Test.YtkpfkgoiaicgbaaGreatDoorM24
import Derived.Test.YtkpfkgoiaicgbaaGreatDoorM9
set_option linter.unusedSimpArgs false
set_option linter.unusedVariables false
set_option maxHeartbeats 12800000
namespace Go.Proofs.YtkpfkgoiaicgbaaGreatDoor
open Go.RowKit Corb
def f9(L D:List Int)(t:Tk):List (Int×Int):=
 if isB t then [pcM L t.1.toNat]
 else [pcM L (257+fnd 3 4 t.2.1.toNat 27),((t.2.1.toNat:Int)-((stF 3 4 (fnd 3 4 t.2.1.toNat 27)).1:Int),((stF 3 4 (fnd 3 4 t.2.1.toNat 27)).2:Nat)),pcM D (fnd 1 2 t.2.2.toNat 29),((t.2.2.toNat:Int)-((stF 1 2 (fnd 1 2 t.2.2.toNat 29)).1:Int),((stF 1 2 (fnd 1 2 t.2.2.toNat 29)).2:Nat))]
def qE(l:List Int):Prop:=∀k,k<l.length->(0<=l.getD k 0/\l.getD k 0<=15)/\(0<=(bB l 15).2.getD k 0/\(bB l 15).2.getD k 0<65536)
theorem IP(y:Nat)(h0:3<=y)(h1:y<=60):pOk ((y:Int)-((stF 3 4 (fnd 3 4 y 27)).1:Int)) ((stF 3 4 (fnd 3 4 y 27)).2:Nat)=true:=by
 have:(List.range 61).all (fun y=>decide (y<3) || pOk ((y:Int)-((stF 3 4 (fnd 3 4 y 27)).1:Int)) ((stF 3 4 (fnd 3 4 y 27)).2:Nat))=true:=by decide +kernel
 have:=List.all_eq_true.1 this y (List.mem_range.2 (by omega));simp only[Bool.or_eq_true,decide_eq_true_eq]at this;rcases this with h|h
 · omega
 · exact h
theorem IM(z:Nat)(h0:1<=z)(h1:z<=250):pOk ((z:Int)-((stF 1 2 (fnd 1 2 z 29)).1:Int)) ((stF 1 2 (fnd 1 2 z 29)).2:Nat)=true:=by
 have:(List.range 251).all (fun z=>decide (z<1) || pOk ((z:Int)-((stF 1 2 (fnd 1 2 z 29)).1:Int)) ((stF 1 2 (fnd 1 2 z 29)).2:Nat))=true:=by decide +kernel
 have:=List.all_eq_true.1 this z (List.mem_range.2 (by omega));simp only[Bool.or_eq_true,decide_eq_true_eq]at this;rcases this with h|h
 · omega
 · exact h
theorem D7(p:Nat×Nat)(l:List (Int×Int))(h:∀x∈l,x.2<=16):(Mc p l).2<=p.2+16*l.length:=by
 unfold Mc nu;induction l generalizing p with
 | nil=>simp[gm]
 | cons x r ih=>
  have h1:=h x (by simp);have h2:=ih (p.1+x.1.toNat*2 ^ p.2,p.2+x.2.toNat) (fun y hy=>h y (by simp[hy]));simp only[List.map_cons,gm,List.length_cons]at *
  omega
theorem Eh(L D:List Int)(t:Tk)(gL:qE L)(gD:qE D)(hf:fW L D t):(∀x∈f9 L D t,x.2<=16)/\(f9 L D t).length<=4:=by
 unfold f9;unfold fW at hf
 split
 · rename_i h;rw[if_pos h]at hf;refine⟨fun x hx=>?_,by simp⟩;simp only[List.mem_cons,List.not_mem_nil,or_false]at hx;subst hx;have:=(gL _ hf).1.2;show L.getD _ 0<=16;omega
 ·
  rename_i h;rw[if_neg h]at hf;refine⟨fun x hx=>?_,by simp⟩;simp only[List.mem_cons,List.not_mem_nil,or_false]at hx;have s1:=vt (L:=3) (G:=4) (k:=fnd 3 4 t.2.1.toNat 27) (by omega) (by omega) (by omega) (by have:=iL 3 4 t.2.1.toNat 27;omega);have s2:=vt (L:=1) (G:=2) (k:=fnd 1 2 t.2.2.toNat 29) (by omega) (by omega) (by omega) (by have:=iL 1 2 t.2.2.toNat 29;omega);rcases hx with rfl|rfl|rfl|rfl
  · have:=(gL _ hf.1).1.2;show L.getD _ 0<=16;omega
  · show((_:Nat):Int)<=16;omega
  · have:=(gD _ hf.2).1.2;show D.getD _ 0<=16;omega
  · show((_:Nat):Int)<=16;omega
theorem Be{l:List Int}(h:ap l=true){k:Nat}(hk:k<l.length):pOk ((bB l 15).2.getD k 0) (l.getD k 0)=true:=by
 have hb:=kk (eD h) hk;rw[Cy h hk];by_cases h1:1<=l.getD k 0
 · rw[if_pos h1];have:=(sY h hk h1).1;exact aW.2 ⟨⟨hb.1,by omega⟩,by omega,by omega⟩
 ·
  rw[if_neg h1];have e:l.getD k 0=0:=by omega
  rw[e];decide
theorem m9{l:List Int}(h:ap l=true):qE l:=by
 intro k hk;have hb:=kk (eD h) hk;obtain⟨_,c0,c1⟩:=aW.1 (Be h hk);refine⟨hb,c0,?_⟩;have h1:p2 (l.getD k 0).toNat<=p2 15:=Nat.pow_le_pow_right (by omega) (by omega);have h2:p2 15=32768:=by decide
 omega
theorem lA{l:List Int}(h:ap l=true){k:Nat}(hk:k<l.length):pcS l k=pcM l k:=by
 unfold pcS pcM;rw[AZ (Be h hk)]
theorem Ik{L D:List Int}(hL:ap L=true)(hD:ap D=true){t:Tk}(hf:fW L D t):pcT L D t=f9 L D t:=by
 unfold pcT f9;unfold fW at hf
 split
 · rename_i h;rw[if_pos h]at hf;rw[lA hL hf]
 · rename_i h;rw[if_neg h]at hf;rw[lA hL hf.1,lA hD hf.2]
theorem oU{L D:List Int}(hL:ap L=true)(hD:ap D=true)(T:List Tk)(hf:∀t∈T,fW L D t):T.flatMap (pcT L D)=T.flatMap (f9 L D):=by
 induction T with
 | nil=>rfl
 | cons t r ih=>rw[List.flatMap_cons,List.flatMap_cons,Ik hL hD (hf t (by simp)),ih (fun x hx=>hf x (by simp[hx]))]
theorem KJ{L D:List Int}(gL:qE L)(gD:qE D){t:Tk}(hk:okT t=true)(hf:fW L D t):aN (f9 L D t)=true:=by
 unfold f9;unfold fW at hf;unfold aN
 split
 · rename_i h;rw[if_pos h]at hf;simp only[List.all_cons,List.all_nil,Bool.and_true];exact oG (gL _ hf).1
 ·
  rename_i h;rw[if_neg h]at hf;have hK:isK t=true:=by unfold okT at hk;simp only[Bool.or_eq_true]at hk;rcases hk with h'|h';exact absurd h' h;exact h'
  obtain⟨y0,y1,z0,z1⟩:=zN hK;simp only[List.all_cons,List.all_nil,Bool.and_true,Bool.and_eq_true];exact⟨oG (gL _ hf.1).1,IP _ (by omega) (by omega),oG (gD _ hf.2).1,IM _ (by omega) (by omega)⟩
theorem wn{L D:List Int}(gL:qE L)(gD:qE D)(T:List Tk)(h:∀t∈T,okT t=true/\fW L D t):aN (T.flatMap (f9 L D))=true/\(T.flatMap (f9 L D)).length<=4*T.length:=by
 induction T with
 | nil=>exact⟨rfl,by simp⟩
 | cons t r ih=>
  obtain⟨h1,h2⟩:=ih (fun x hx=>h x (by simp[hx]));obtain⟨h3,h4⟩:=h t (by simp);have h5:=(Eh L D t gL gD h4).2;refine⟨?_,by simp only[List.flatMap_cons,List.length_append,List.length_cons];omega⟩;have h6:=KJ gL gD h3 h4;unfold aN at *
  rw[List.flatMap_cons,List.all_append,h6,h1];rfl
theorem ui(L:List UInt8):∀n p,L.length-p<=n->∀t∈bh L p,okT t=true:=by
 intro n;induction n with
 | zero=>
  intro p hp t ht;rw[dR (by omega)]at ht;cases ht
 | succ n ih=>
  intro p hp t ht;by_cases h:p<L.length
  ·
   rw[ij h]at ht;rcases List.mem_cons.1 ht with rfl|ht
   · exact qh L p
   · exact ih (p+iq L p) (by have:=(fo L p).1;omega) t ht
  · rw[dR h]at ht;cases ht
theorem fR(s:ByteArray):∀t∈bh s.data.toList 0,okT t=true:=ui s.data.toList s.data.toList.length 0 (by omega)
def iu:List Int:=List.replicate 32 5
theorem km:ap (dj 288)=true:=by decide +kernel
theorem qY:ap iu=true:=by decide +kernel
theorem ln{t:Tk}(_:okT t=true):fW (dj 288) iu t:=by
 unfold fW
 split
 · rename_i hB;have:=uX hB;rw[dH];omega
 · have h1:=iL 3 4 t.2.1.toNat 27;have h2:=iL 1 2 t.2.2.toNat 29;rw[dH];exact⟨by omega,by show _<(List.replicate 32 (5:Int)).length;rw[List.length_replicate];omega⟩
def gT(s:ByteArray):List (Int×Int):=[(1,1),(1,2)]++((bh s.data.toList 0).flatMap (f9 (dj 288) iu)++[pcM (dj 288) 256])
theorem kN(s:ByteArray)(hs:s.size<=300):(bh s.data.toList 0).length<=300:=by
 have h2:=uh s.data.toList s.data.toList.length 0 (by omega);have h3:s.data.toList.length=s.size:=by simp
 omega
theorem mZ(s:ByteArray)(hs:s.size<=300):lOk (gT s)=true:=by
 obtain⟨h1,h2⟩:=wn (m9 km) (m9 qY) (bh s.data.toList 0) (fun t ht=>⟨fR s t ht,ln (fR s t ht)⟩);have h3:=kN s hs;have h4:pOk (pcM (dj 288) 256).1 (pcM (dj 288) 256).2=true:=oG (m9 km 256 (by rw[dH];omega)).1;unfold lOk;have h5:aN (gT s)=true:=by
  unfold gT;unfold aN at *
  rw[List.all_append,List.all_append,h1];simp only[List.all_cons,List.all_nil,h4];decide
 have h6:(gT s).length<=4000:=by unfold gT;simp only[List.length_append,List.length_cons,List.length_nil];omega
 rw[h5];simpa using h6
def dW(s:ByteArray):List UInt8:=bS (gT s)
def ka(s:ByteArray):List UInt8:=if s.size<=300 then dW s else []
theorem Dh(s:ByteArray):[(1,1),(1,2)]++((bh s.data.toList 0).flatMap (pcT (dj 288) iu)++[pcS (dj 288) 256])=gT s:=by
 unfold gT;rw[oU km qY _ (fun t ht=>ln (fR s t ht)),lA km (by rw[dH];omega)]
theorem Ei{w:World}{base n cap:Nat}{a:Option Addr}{l:List (Int×Int)}(hn:l.length=n)(h:Pcs w base (.slice a n cap) l)(h0:0<n):∃g,a=some ⟨g,0,none⟩/\∀(j:Nat) (u:Value),(aL l)[j]?=some u->w.cell? ((⟨g,0,none⟩:Addr).add j)=some u:=by
 rcases h.2 with⟨_,e⟩|⟨g,cap',cur,e,_⟩
 · omega
 · simp only[Value.slice.injEq]at e;obtain⟨rfl,_,rfl⟩:=e;exact⟨g,rfl,World.ownsRow.cells h rfl⟩
theorem sJ(s:ByteArray)(w:World)(hs:s.size<=300) :
  Calls Tryz.prog 79 #[.string s] w fun e w'=>e = .returned (.string ⟨(dW s).toArray⟩)/\Below w.heap.size w w':=by
 obtain⟨i0,hi,hz0,hz1,hz2⟩:=info_parts Tryz.infoPiece;have hI:¬ (300:Int)<(s.size:Int):=by omega
 have hP0:Hid ((w.alloc (.cells #[.int .i64 1,.int .i64 1,.int .i64 1,.int .i64 2] 180)).ownsRow w.heap.size 180 2 (.slice (some ⟨w.heap.size,0,none⟩) 2 2) 2 [.int .i64 1,.int .i64 1,.int .i64 1,.int .i64 2]):=World.ownsRow_lit w #[.int .i64 1,.int .i64 1,.int .i64 1,.int .i64 2] 2 (Nat.le_refl _) (by unfold maxLen;omega) rfl;have hB0:Hid (Below w.heap.size w (w.alloc (.cells #[.int .i64 1,.int .i64 1,.int .i64 1,.int .i64 2] 180))):=(Below.refl _ _).alloc (Nat.le_refl _) _;have HS:=af hs;have HE:=af (Dh s);have HP:Hid (nC (gT s)=dW s):=dt (mZ s hs);have HLn:Hid ((gT s).length<=4000):=by
  have:=mZ s hs;unfold lOk at this;simp only[Bool.and_eq_true,decide_eq_true_eq]at this;exact this.2
 clear hs;go_enter Tryz.func79,Tryz.ntmps79;go_wp2_with fail;refine(iK 1 w).mono ?_;rintro e x1 ⟨rfl,hx1⟩;have h1P:=af (show x1.ownsRow w.heap.size 180 2 (.slice (some ⟨w.heap.size,0,none⟩) 2 2) 2 [.int .i64 1,.int .i64 1,.int .i64 1,.int .i64 2] by rw[hx1];exact ae hP0);have h1B:=af (show Below w.heap.size w x1 by rw[hx1];exact ae hB0);clear hx1 hP0 hB0;go_wp2_with fail;refine(j9 _).mono ?_;rintro e x2 ⟨⟨C,rfl,hBk⟩,hb2⟩;have h2P:=af (eG (ae h1P) hb2);have h2B:=af (aj (ae h1B) hb2);have HBk:=af hBk;clear hBk hb2 h1P h1B;go_wp2_with fail;refine(rO s _ (dj 288) iu C _ (ae HS) (ae HBk) (by rw[dH];omega) (by show(List.replicate 32 (5:Int)).length<=300;rw[List.length_replicate];omega) (by rw[dH];omega) (fun t ht=>ln (fR s t ht))).mono ?_;rintro e x3 ⟨v,rfl,hp3,hb3⟩;have h3P:=af (eG (ae h2P) hb3);have h3B:=af (aj (ae h2B) hb3);clear hb3 h2P h2B HBk;generalize hR:(bh s.data.toList 0).flatMap (pcT (dj 288) iu)++[pcS (dj 288) 256]=R at *
 have hR0:0<R.length:=by rw[←hR];simp
 obtain⟨m,hm⟩:∃m,R.length=m:=⟨_,rfl⟩;obtain⟨va,vc,rfl⟩:∃a cap,v = .slice a m cap:=by
  rcases hp3.2 with⟨_,h0⟩|⟨g,cap,_,e,_⟩
  · omega
  · exact⟨_,cap,by rw[←hm];exact e⟩
 obtain⟨g3,rfl,hc3⟩:=Ei hm hp3 (by omega);have HC3:=af hc3;have Hm:=af hm;have bd:Hid (2+m<=maxLen/\(2+m)*16<=140737488355328):=by
  show _/\_;have h1:=ae HLn;rw[←ae HE,List.length_append,hm]at h1;unfold maxLen;simp only[List.length_cons,List.length_nil]at h1;omega
 have hbs:=(ae h3B).size;clear hR hR0 hp3 hc3 hm;go_wp2_with (at_builtin;refine wpList_append_own _ rfl _ _ 177 rfl w.heap.size 180 i0 (.agg #[.int .i64 0,.int .i64 0]) 2 16 Tryz.underlying177 hi hz0 hz1 hz2 rfl (by decide) (.slice (some ⟨w.heap.size,0,none⟩) 2 2) _ _ rfl (ae h3P) ⟨g3,0,none⟩ m vc (aL R) rfl (by rw[jv,ae Hm]) (ae HC3) (fH R) (ae bd).1 (ae bd).2 hbs ?_;intro v' x4 hown hgrow hnil;clear hnil);have hX:([.int .i64 1,.int .i64 1,.int .i64 1,.int .i64 2]:List Value)++aL R=aL (gT s):=by rw[←ae HE,du];rfl
 have hN:2+m=(gT s).length:=by rw[←ae HE,List.length_append,ae Hm];rfl
 rw[hX,hN]at hown;have hP4:Pcs x4 w.heap.size v' (gT s):=hown;obtain⟨a4,c4,rfl⟩:=hP4.form;have hb4:Below w.heap.size w x4:=(ae h3B).grown hgrow hbs (fun j hj=>(World.ownsRow.lt (ae h3P) j hj).1);refine(ea a4 c4 (gT s) _ hP4.row (by have:=ae HLn;omega)).mono ?_;rintro e x5 ⟨rfl,hb5⟩;rw[ae HP];have HB5:=af (aj hb4 hb5);clear hX hN hown hP4 hb4 hb5 hgrow;generalize hR:dW s=Q at *
 have HR:=af hR;clear hR;go_wp2;go_ret;exact⟨by rw[ae HR];rfl,ae HB5⟩
theorem oo(s:ByteArray)(w:World)(hs:s.size<=1048576) :
  Calls Tryz.prog 79 #[.string s] w fun e w'=>e = .returned (.string ⟨(ka s).toArray⟩)/\Below w.heap.size w w':=by
 by_cases h:s.size<=300
 · have HF:Hid (ka s=dW s):=if_pos h;rw[ae HF];exact sJ s w h
 ·
  have hI:(300:Int)<(s.size:Int):=by omega
  have HF:Hid (ka s=[]):=if_neg h;clear h;go_enter Tryz.func79,Tryz.ntmps79;go_wp2;go_ret;exact⟨by rw[ae HF];rfl,Below.refl _ _⟩
def byS(s:ByteArray):ByteArray:=⟨(ew s.data.toList).toArray⟩
def byF(s:ByteArray):ByteArray:=⟨(ka s).toArray⟩
theorem FK(s:ByteArray)(h:¬ s.size<=300):byS s=⟨#[]⟩:=by
 have:ew s.data.toList=[]:=by unfold ew;rw[if_neg (by rw[lF];exact h)]
 unfold byS;rw[this]
theorem FI(s:ByteArray)(h:¬ s.size<=300):byF s=⟨#[]⟩:=by unfold byF ka;rw[if_neg h]
def inc(o:List Int)(k:Nat):List Int:=o.set k (o.getD k 0+1)
def ip(o:List Int)(s:List Nat):List Int:=s.foldl inc o
theorem nf(o:List Int)(k:Nat):(inc o k).length=o.length:=by simp[inc]
theorem gZ(o:List Int)(s:List Nat):(ip o s).length=o.length:=by
 induction s generalizing o with
 | nil=>rfl
 | cons x s ih=>show(ip (inc o x) s).length=_;rw[ih,nf]
theorem lj(o:List Int)(s:List Nat)(x:Nat):ip o (s++[x])=inc (ip o s) x:=by simp[ip]
theorem nd(o:List Int)(k j:Nat):(inc o k).getD j 0=o.getD j 0+(if j=k/\k<o.length then 1 else 0):=by
 unfold inc;simp only[List.getD_eq_getElem?_getD,List.getElem?_set];by_cases h:k=j
 ·
  subst h;by_cases hk:k<o.length
  · simp[hk]
  · simp[hk]
 · have:¬ j=k:=fun e=>h e.symm;simp[h,this]
theorem ng(o:List Int)(s:List Nat)(j:Nat):(ip o s).getD j 0=o.getD j 0+(if j<o.length then(s.count j:Int)else 0):=by
 induction s generalizing o with
 | nil=>simp[ip]
 | cons x s ih=>
  show(ip (inc o x) s).getD j 0=_;rw[ih,nd,nf,List.count_cons];by_cases h:j=x
  ·
   subst h;by_cases hk:j<o.length
   · simp[hk];omega
   · simp[hk]
  ·
   have:(x == j)=false:=by simp;exact fun e=>h e.symm
   simp[h,this]
theorem lJ(n j:Nat):(List.replicate n (0:Int)).getD j 0=0:=by
 by_cases h:j<n<;>simp[List.getD,h]
theorem vA {l : List Int} {k : Nat} (hk : k < l.length) (h : 0 < l.getD k 0) : 1 ≤ us l := by
  induction l generalizing k with
  | nil => simp at hk
  | cons b l ih =>
    simp only [us, List.map_cons, List.sum_cons] at ih ⊢
    cases k with
    | zero => have : 0 < b := by simpa using h
              rw [if_pos this]; omega
    | succ k => have := ih (k := k) (by simpa using hk) (by simpa using h); omega
theorem Lh{l:List Int}(h:us l=0)(k:Nat)(hk:k<l.length):¬ 0<l.getD k 0:=fun hp=>by have:=vA hk hp;omega
def kp(t:Tk):Nat:=if isB t then t.1.toNat else 257+fnd 3 4 t.2.1.toNat 27
def eT(t:Tk):List Nat:=if isB t then []else [fnd 1 2 t.2.2.toNat 29]
theorem Kp{t:Tk}(_:okT t=true):kp t<286:=by
 unfold kp
 split
 · rename_i hB;have:=uX hB;omega
 · have:=iL 3 4 t.2.1.toNat 27;omega
theorem FR{t:Tk} : ∀x∈eT t,x<30:=by
 unfold eT;intro x hx
 split at hx
 · simp at hx
 · have:=iL 1 2 t.2.2.toNat 29;simp at hx;omega
def gi(T:List Tk):List Int:=inc (ip (List.replicate 286 0) (T.map kp)) 256
def jJ(T:List Tk):List Int:=ip (List.replicate 30 0) (T.flatMap eT)
def cX(T:List Tk):List Int:=if us (jJ T)=0 then inc (jJ T) 0 else jJ T
theorem fZ(T:List Tk):(gi T).length=286:=by unfold gi;rw[nf,gZ,List.length_replicate]
theorem lf(T:List Tk):(jJ T).length=30:=by unfold jJ;rw[gZ,List.length_replicate]
theorem fB(T:List Tk):(cX T).length=30:=by unfold cX;split;rw[nf,lf];exact lf T
theorem rm(T:List Tk)(j:Nat)(hj:j<286):(gi T).getD j 0=((T.map kp).count j:Int)+(if j=256 then 1 else 0):=by
 unfold gi;rw[nd,ng,gZ,List.length_replicate,lJ,if_pos hj];by_cases h:j=256<;>simp[h]
theorem od(T:List Tk)(j:Nat)(hj:j<30):(jJ T).getD j 0=((T.flatMap eT).count j:Int):=by
 unfold jJ;rw[ng,List.length_replicate,lJ,if_pos hj];simp
theorem wt(T:List Tk):(T.flatMap eT).length<=T.length:=by
 induction T with
 | nil=>simp
 | cons t r ih=>
  have:(eT t).length<=1:=by unfold eT;split<;>simp
  simp only[List.flatMap_cons,List.length_append,List.length_cons];omega
theorem BC(T:List Tk)(hT:T.length<=300):okC (gi T):=by
 intro i hi;rw[fZ]at hi;rw[rm T i hi];have h1:(T.map kp).count i<=(T.map kp).length:=List.count_le_length;rw[List.length_map]at h1
 split<;>omega
theorem FQ(T:List Tk)(hT:T.length<=300):∀i,i<30->0<=(jJ T).getD i 0/\(jJ T).getD i 0<=300:=by
 intro i hi;rw[od T i hi];have h1:(T.flatMap eT).count i<=(T.flatMap eT).length:=List.count_le_length;have h2:=wt T;omega
theorem vY(T:List Tk)(hT:T.length<=300):okC (cX T):=by
 intro i hi;rw[fB]at hi;have:=FQ T hT i hi;unfold cX
 split
 · rw[nd];split<;>omega
 · omega
theorem BE(T:List Tk):1<=us (gi T)/\us (gi T)<=286:=by
 refine⟨vA (k:=256) (by rw[fZ];omega) ?_,by have:=sv (gi T);rw[fZ]at this;exact this⟩;rw[rm T 256 (by omega),if_pos rfl];omega
theorem vZ(T:List Tk):1<=us (cX T)/\us (cX T)<=30:=by
 refine⟨?_,by have:=sv (cX T);rw[fB]at this;exact this⟩;unfold cX
 split
 · rename_i h;refine vA (k:=0) (by rw[nf,lf];omega) ?_;rw[nd,od T 0 (by omega),lf,if_pos (by omega)];omega
 · omega
theorem CJ(T:List Tk)(j:Nat)(h:0<(jJ T).getD j 0):0<(cX T).getD j 0:=by
 unfold cX
 split
 · rw[nd];split<;>omega
 · exact h
def eJ(l:List Int)(least:Nat):Nat->Nat
 | 0=>0
 | n+1=>if least<n+1/\l.getD n 0=0 then eJ l least n else n+1
def mS(l:List Int)(least:Nat):List Int:=l.take (eJ l least l.length)
theorem s9{l:List Int}{least n:Nat}(h:least<n+1/\l.getD n 0=0):eJ l least (n+1)=eJ l least n:=by simp only[eJ];rw[if_pos h]
theorem td{l:List Int}{least n:Nat}(h:¬ (least<n/\l.getD (n-1) 0=0)):eJ l least n=n:=by
 cases n with
 | zero=>rfl
 | succ n=>rw[Nat.add_sub_cancel]at h;simp only[eJ];rw[if_neg h]
theorem pX(l:List Int)(least n:Nat):eJ l least n<=n:=by
 induction n with
 | zero=>exact Nat.le_refl _
 | succ n ih=>simp only[eJ];split<;>omega
theorem qx (l : List Int) (least n : Nat) (h : least ≤ n) : least ≤ eJ l least n := by
  induction n with
  | zero => exact h
  | succ n ih => simp only [eJ]; split
                 · exact ih (by omega)
                 · exact h
theorem te(l:List Int)(least n j:Nat)(h1:eJ l least n<=j)(h2:j<n):l.getD j 0=0:=by
 induction n with
 | zero=>omega
 | succ n ih=>
  by_cases hc:least<n+1/\l.getD n 0=0
  ·
   rw[s9 hc]at h1;by_cases e:j=n
   · subst e;exact hc.2
   · exact ih h1 (by omega)
  · simp only[eJ]at h1;rw[if_neg hc]at h1;omega
theorem iV(l:List Int)(least:Nat):(mS l least).length=eJ l least l.length:=by
 unfold mS;rw[List.length_take];have:=pX l least l.length;omega
theorem I5(l:List Int)(c j:Nat)(h:j<c):(l.take c).getD j 0=l.getD j 0:=by
 simp[List.getD,h]
theorem vW(l:List Int)(least j:Nat)(h:j<l.length):(mS l least).getD j 0=l.getD j 0:=by
 by_cases hc:j<eJ l least l.length
 · exact I5 l _ j hc
 ·
  rw[te l least l.length j (by omega) h];have:(mS l least).length<=j:=by rw[iV];omega
  simp[List.getD,this]
theorem E8{l:List Int}(h:∀x∈l,x=0):kr l=0/\us l=0:=by
 induction l with
 | nil=>exact⟨rfl,rfl⟩
 | cons b l ih=>
  obtain⟨h1,h2⟩:=ih (fun x hx=>h x (by simp[hx]));have hb:b=0:=h b (by simp);subst hb;simp only[kr,us,List.map_cons,List.sum_cons]at h1 h2 ⊢;rw[h1,h2];exact⟨rfl,rfl⟩
theorem FN(l:List Int)(least:Nat):kr (mS l least)=kr l/\us (mS l least)=us l:=by
 have h:∀x∈l.drop (eJ l least l.length),x=0:=by
  intro x hx;obtain⟨i,hi,rfl⟩:=List.mem_iff_getElem.1 hx;rw[List.getElem_drop];rw[List.length_drop]at hi;have:=te l least l.length (eJ l least l.length+i) (by omega) (by omega);have hlt:eJ l least l.length+i<l.length:=by omega
  simpa[List.getD,hlt]using this
 obtain⟨h1,h2⟩:=E8 h;have e:l=mS l least++l.drop (eJ l least l.length):=(List.take_append_drop _ _).symm;have k1:kr l=kr (mS l least)+kr (l.drop (eJ l least l.length)):=by
  conv=>lhs;rw[e]
  simp[kr]
 have k2:us l=us (mS l least)+us (l.drop (eJ l least l.length)):=by
  conv=>lhs;rw[e]
  simp[us]
 omega
theorem ri{l:List Int}(least:Nat)(h:ap l=true):ap (mS l least)=true:=by
 obtain⟨h1,h2⟩:=FN l least;unfold ap mL at h ⊢;rw[h1,h2];simp only[Bool.and_eq_true,decide_eq_true_eq]at h ⊢;obtain⟨⟨ha,hb⟩,hc⟩:=h;refine⟨⟨?_,by rw[iV];have:=pX l least l.length;omega⟩,hc⟩;unfold inL at ha ⊢;rw[List.all_eq_true]at ha ⊢;intro x hx;exact ha x (List.mem_of_mem_take hx)
def cn(T:List Tk):List Int:=mS (dF 15 (gi T)) 257
def dx(T:List Tk):List Int:=mS (dF 15 (cX T)) 1
theorem BQ:p2 14=16384:=by decide
theorem ML:p2 6=64:=by decide
theorem Ko(T:List Tk)(hT:T.length<=300):(dF 15 (gi T)).length=286/\ap (dF 15 (gi T))=true/\∀i,i<286->0<=(dF 15 (gi T)).getD i 0/\(dF 15 (gi T)).getD i 0<=15/\(0<(dF 15 (gi T)).getD i 0<->0<(gi T).getD i 0):=by
 have h1:=BE T;have h:=rk (m:=14) (BC T hT) (by rw[fZ];omega) (by rw[fm];omega) (by rw[fm];have h2:=BQ;omega) (by omega);rw[fZ]at h;exact h
theorem Bg(T:List Tk)(hT:T.length<=300):(dF 15 (cX T)).length=30/\ap (dF 15 (cX T))=true/\∀i,i<30->0<=(dF 15 (cX T)).getD i 0/\(dF 15 (cX T)).getD i 0<=15/\(0<(dF 15 (cX T)).getD i 0<->0<(cX T).getD i 0):=by
 have h1:=vZ T;have h:=rk (m:=14) (vY T hT) (by rw[fB];omega) (by rw[fm];omega) (by rw[fm];have h2:=BQ;omega) (by omega);rw[fB]at h;exact h
theorem kx(T:List Tk)(hT:T.length<=300):257<=(cn T).length/\(cn T).length<=286:=by
 obtain⟨h1,_,_⟩:=Ko T hT;unfold cn;rw[iV,h1];exact⟨qx _ _ _ (by omega),pX _ _ _⟩
theorem ny(T:List Tk)(hT:T.length<=300):1<=(dx T).length/\(dx T).length<=30:=by
 obtain⟨h1,_,_⟩:=Bg T hT;unfold dx;rw[iV,h1];exact⟨qx _ _ _ (by omega),pX _ _ _⟩
theorem js(T:List Tk)(hT:T.length<=300):ap (cn T)=true:=ri 257 (Ko T hT).2.1
theorem lw(T:List Tk)(hT:T.length<=300):ap (dx T)=true:=ri 1 (Bg T hT).2.1
theorem zG{l:List Int}{j:Nat}(h:0<l.getD j 0):j<l.length:=by
 rcases Nat.lt_or_ge j l.length with h'|h'
 · exact h'
 · simp[List.getD,h']at h
theorem xM(T:List Tk)(hT:T.length<=300)(k:Nat)(hk:k=256∨k∈T.map kp)(h286:k<286):0<(cn T).getD k 0:=by
 obtain⟨h1,_,h3⟩:=Ko T hT;unfold cn;rw[vW _ _ _ (by omega)];refine(h3 k h286).2.2.2 ?_;rw[rm T k h286];rcases hk with rfl|hk
 · rw[if_pos rfl];omega
 ·
  have:=List.count_pos_iff.2 hk
  split<;>omega
theorem Ia(T:List Tk)(hT:T.length<=300)(k:Nat)(hk:k∈T.flatMap eT)(h30:k<30):0<(dx T).getD k 0:=by
 obtain⟨h1,_,h3⟩:=Bg T hT;unfold dx;rw[vW _ _ _ (by omega)];refine(h3 k h30).2.2.2 (CJ T k ?_);rw[od T k h30];have:=List.count_pos_iff.2 hk;omega
theorem BP(T:List Tk)(hT:T.length<=300)(hok:∀t∈T,okT t=true)(t:Tk)(ht:t∈T):0<(cn T).getD (kp t) 0/\∀k∈eT t,0<(dx T).getD k 0:=by
 refine⟨xM T hT _ (.inr (List.mem_map_of_mem ht)) (Kp (hok t ht)),fun k hk=>Ia T hT k ?_ (FR k hk)⟩;exact List.mem_flatMap.2 ⟨t,ht,hk⟩
theorem rG(T:List Tk)(hT:T.length<=300)(hok:∀t∈T,okT t=true)(t:Tk)(ht:t∈T):fW (cn T) (dx T) t:=by
 obtain⟨h1,h2⟩:=BP T hT hok t ht;unfold fW;unfold kp at h1;unfold eT at h2
 split
 · rename_i h;rw[if_pos h]at h1;exact zG h1
 · rename_i h;rw[if_neg h]at h1 h2;exact⟨zG h1,zG (h2 _ (by simp))⟩
def nY(A:List Int):List Int:=ip (List.replicate 19 0) (A.map Int.toNat)
def bD(A:List Int):List Int:=dF 7 (nY A)
theorem fV(A:List Int):(nY A).length=19:=by unfold nY;rw[gZ,List.length_replicate]
theorem qw(A:List Int)(j:Nat)(hj:j<19):(nY A).getD j 0=((A.map Int.toNat).count j:Int):=by
 unfold nY;rw[ng,List.length_replicate,lJ,if_pos hj];simp
theorem Bb(A:List Int)(hA:A.length<=400):okC (nY A):=by
 intro i hi;rw[fV]at hi;rw[qw A i hi];have h1:(A.map Int.toNat).count i<=(A.map Int.toNat).length:=List.count_le_length;rw[List.length_map]at h1;omega
theorem Bc(A:List Int)(h0:0<A.length)(hA:∀x∈A,0<=x/\x<=15):1<=us (nY A)/\us (nY A)<=19:=by
 refine⟨?_,by have:=sv (nY A);rw[fV]at this;exact this⟩;have h1:=hA A[0] (List.getElem_mem h0);refine vA (k:=(A[0]).toNat) (by rw[fV];omega) ?_;rw[qw A _ (by omega)];have:=List.count_pos_iff.2 (List.mem_map_of_mem (f:=Int.toNat) (List.getElem_mem h0));omega
theorem uZ(A:List Int)(h0:0<A.length)(h4:A.length<=400)(hA:∀x∈A,0<=x/\x<=15):(bD A).length=19/\ap (bD A)=true/\∀i,i<19->0<=(bD A).getD i 0/\(bD A).getD i 0<=7/\(0<(bD A).getD i 0<->0<(nY A).getD i 0):=by
 have h1:=Bc A h0 hA;have h:=rk (m:=6) (Bb A h4) (by rw[fV];omega) (by rw[fm];omega) (by rw[fm];have h2:=ML;omega) (by omega);rw[fV]at h;exact h
theorem DG(A:List Int)(h0:0<A.length)(h4:A.length<=400)(hA:∀x∈A,0<=x/\x<=15)(x:Int)(hx:x∈A):0<(bD A).getD x.toNat 0:=by
 have h1:=hA x hx;refine((uZ A h0 h4 hA).2.2 x.toNat (by omega)).2.2.2 ?_;rw[qw A _ (by omega)];have:=List.count_pos_iff.2 (List.mem_map_of_mem (f:=Int.toNat) hx);omega
def dM(L D:List Int):List (Int×Int):=
 [((L.length:Int)-257,5),((D.length:Int)-1,5),(15,4)]++(bw.map (fun i=>((bD (L++D)).getD i 0,(3:Int)))++(L++D).map (fun x=>pcM (bD (L++D)) x.toNat))
def jO(T:List Tk):List (Int×Int):=[(1,1),(2,2)]++(dM (cn T) (dx T)++(T.flatMap (f9 (cn T) (dx T))++[pcM (cn T) 256]))
theorem lq{l:List Int}(h:ap l=true):∀x∈l,0<=x/\x<=15:=by
 intro x hx;obtain⟨i,hi,rfl⟩:=List.mem_iff_getElem.1 hx;have:=kk (eD h) hi;simpa[List.getD,hi]using this
theorem I7{L D:List Int}(hL:ap L=true)(hD:ap D=true)(l0:257<=L.length)(l1:L.length<=286)(d0:1<=D.length)(d1:D.length<=30):aN (dM L D)=true/\(dM L D).length<=338:=by
 have hA:∀x∈L++D,0<=x/\x<=15:=by
  intro x hx;rcases List.mem_append.1 hx with h|h
  · exact lq hL x h
  · exact lq hD x h
 obtain⟨h1,h2,h3⟩:=uZ (L++D) (by rw[List.length_append];omega) (by rw[List.length_append];omega) hA;refine⟨?_,?_⟩
 ·
  unfold dM aN;rw[List.all_append,List.all_append];simp only[Bool.and_eq_true];refine⟨?_,?_,?_⟩
  ·
   simp only[List.all_cons,List.all_nil,Bool.and_true,Bool.and_eq_true];refine⟨aW.2 ⟨by omega,by omega,?_⟩,aW.2 ⟨by omega,by omega,?_⟩,by decide⟩
   ·
    have:p2 (5:Int).toNat=32:=by decide
    rw[this];omega
   ·
    have:p2 (5:Int).toNat=32:=by decide
    rw[this];omega
  ·
   rw[List.all_eq_true];intro x hx;obtain⟨i,hi,rfl⟩:=List.mem_map.1 hx;have hi19:i<19:=by
    have:∀i∈bw,i<19:=by decide
    exact this i hi
   have:=h3 i hi19;refine aW.2 ⟨by omega,this.1,?_⟩;have:p2 (3:Int).toNat=8:=by decide
   rw[this];omega
  · rw[List.all_eq_true];intro x hx;obtain⟨y,hy,rfl⟩:=List.mem_map.1 hx;have hy2:=hA y hy;exact oG (kk (eD h2) (by rw[h1];omega))
 · unfold dM;simp only[List.length_append,List.length_map,List.length_cons,List.length_nil];have:bw.length=19:=rfl;omega
theorem qb(T:List Tk)(hT:T.length<=300)(hok:∀t∈T,okT t=true):lOk (jO T)=true:=by
 have gL:=m9 (js T hT);have gD:=m9 (lw T hT);obtain⟨l0,l1⟩:=kx T hT;obtain⟨d0,d1⟩:=ny T hT;obtain⟨h1,h2⟩:=wn gL gD T (fun t ht=>⟨hok t ht,rG T hT hok t ht⟩);obtain⟨t1,t2⟩:=I7 (js T hT) (lw T hT) l0 l1 d0 d1;have h4:pOk (pcM (cn T) 256).1 (pcM (cn T) 256).2=true:=oG (gL 256 (by omega)).1;unfold lOk;have h5:aN (jO T)=true:=by
  unfold jO;unfold aN at *
  rw[List.all_append,List.all_append,List.all_append,h1,t1];simp only[List.all_cons,List.all_nil,h4];decide
 have h6:(jO T).length<=4000:=by unfold jO;simp only[List.length_append,List.length_cons,List.length_nil];omega
 rw[h5];simpa using h6
def oD(s:ByteArray):List UInt8:=bS (jO (bh s.data.toList 0))
theorem pe(g o:Nat)(cap n least:Nat)(l:List Int)(w:World)(hn:l.length=n)(h:∀i,i<n->w.cell? ⟨g,o+i,none⟩=some (.int .i64 (l.getD i 0)))(hc:n<=cap)(hm:n<=300)(hl:least<=n) :
  Calls Tryz.prog 128 #[.slice (some ⟨g,o,none⟩) n cap,.int .i64 (least:Nat)] w fun e w'=>e = .returned (.slice (some ⟨g,o,none⟩) (eJ l least n) cap)/\w'=w:=by
 have hcI:(n:Int)<=(cap:Int):=by omega
 have hmI:(n:Int)<=300:=by omega
 have H:=af h;clear h hn hc hm hl;go_enter Tryz.func128,Tryz.ntmps128;go_wp2
 go_loop [5] (fun x=>∃k:Nat,k<=n/\x = .int .i64 k/\eJ l least n=eJ l least k) (fun x=>(intOf x).toNat)
 case atStart=>exact⟨n,Nat.le_refl _,rfl,rfl⟩
 case round=>
  obtain⟨k,hk,rfl,hcut⟩:=hrel;have HC:=af hcut;have HK:=af hk;have hkI:(k:Int)<=(n:Int):=by omega
  clear hcut hk;by_cases hlt:least<k
  ·
   have hltI:decide ((least:Int)<(k:Int))=true:=decide_eq_true (by omega);have hltI':(least:Int)<(k:Int):=by omega
   obtain⟨j,hj⟩:∃j,k=j+1:=⟨k-1,by omega⟩;subst hj;have hc0:=ae H j (by have:=ae HK;omega);have hs:=af (fun h=>s9 (l:=l) (least:=least) (n:=j) h);have hp:=af (fun h=>td (l:=l) (least:=least) (n:=j+1) h);have hjn:(j:Int)<(n:Int):=by omega
   generalize hy:l.getD j 0=y at *
   have HY:=af hy;clear hy;by_cases hz:y=0
   ·
    subst hz;have HC2:Hid (eJ l least n=eJ l least j):=(ae HC).trans (ae hs ⟨hlt,rfl⟩);have HJ:Hid (j<=n):=by show j<=n;have:=ae HK;omega
    clear hlt;go_wp2
    go_round
    case rel=>exact⟨j,ae HJ,by go_num,ae HC2⟩
    case measure=>simp[intOf]
   ·
    have hzb:(y == 0)=false:=by simpa using hz
    have HC2:Hid (eJ l least n=j+1):=(ae HC).trans (ae hp (by rw[Nat.add_sub_cancel,ae HY];exact fun h=>hz h.2));clear hlt;go_wp2;go_ret;exact⟨by rw[ae HC2];rfl,rfl⟩
  ·
   have hltI':¬ (least:Int)<(k:Int):=by omega
   have HC2:Hid (eJ l least n=k):=(ae HC).trans (td (fun h=>hlt h.1));clear hlt;go_wp2;go_ret;exact⟨by rw[ae HC2];rfl,rfl⟩
theorem Tryz.infoLenK:(Tryz.prog.info? 265).map (·.size)=some 19:=by kernel_rfl
theorem wZ(a:Option Addr)(cap n base:Nat)(l:List Int)(w:World)(hn:l.length=n)(h:dN w base a l)(hB:base<=w.heap.size)(hm:n<=300) :
  Calls Tryz.prog 170 #[.slice a n cap] w fun e w'=>(∃C,e = .returned (.agg C)/\bm w' base l C)/\Below w.heap.size w w':=by
 refine(Bkx.codeBook_any Bkx.bkN (.inr (.inr rfl)) a cap n l w hn h.1 hm).mono ?_;rintro e w' ⟨vs,C,rfl,hC,h1,h2,hb⟩;obtain⟨q,sc,rfl⟩:=h2.form;subst hn;exact⟨⟨C,rfl,a,cap,_,_,q,sc,hC,h.later hb,(cw (dc l 15) (h1.own (dc l 15))).mono (by omega),(cw rfl h2).mono (by omega)⟩,hb⟩
theorem zS(k:Nat)(l:List Int)(C:Array Value)(base:Nat)(w:World)(hB:bm w base l C)(hk:k<l.length)(hm:l.length<=300) :
  Calls Tryz.prog 172 #[.agg C,.int .i64 (k:Int)] w fun e w'=>e = .returned (.agg #[.int .i64 (btI ((bB l 15).2.getD k 0) (l.getD k 0)),.int .i64 (l.getD k 0)])/\Below w.heap.size w w':=by
 obtain⟨a,cap,ac,cc,q,sc,e,h1,h2,h3⟩:=hB;exact Bkx.bookPut_any Bkx.bkN (.inr (.inr rfl)) a ac cap l.length cc k _ _ C l (bB l 15).2 w e rfl (dc l 15) h1.1 h2.1 hk hm
def ql(w:World)(b base:Nat)(l:List Int)(C:Array Value):Prop:=bm w base l C/\w.rangeAt b 0 C.toList/\b<w.heap.size
theorem ql.later{w w':World}{b base:Nat}{l:List Int}{C:Array Value}(h:ql w b base l C)(hb:Below w.heap.size w w'):ql w' b base l C:=
 ⟨h.1.later hb,iz h.2.1 hb h.2.2,Nat.lt_of_lt_of_le h.2.2 hb.size⟩
theorem yD(k b base:Nat)(l:List Int)(C:Array Value)(w:World)(hB:ql w b base l C)(hk:k<l.length)(hm:l.length<=300) :
  Calls Tryz.prog 171 #[.int .i64 (k:Int),.pointer (some ⟨b,0,none⟩)] w fun e w'=>e = .returned (.agg #[.int .i64 (pcS l k).1,.int .i64 (pcS l k).2])/\Below w.heap.size w w':=by
 have hA:Below w.heap.size w (w.alloc (.cells #[.int .i64 0,.int .i64 0] 180)):=(Below.refl _ _).alloc (Nat.le_refl _) _;have HA:=af hA;have HR:=af (hB.later hA).2.1;have HS:=af hB.1.size;have HP:=af (zS k l C base _ (hB.later hA).1 hk hm);have HPc:Hid (pcS l k=(btI ((bB l 15).2.getD k 0) (l.getD k 0),l.getD k 0)):=rfl;generalize btI ((bB l 15).2.getD k 0) (l.getD k 0)=u at *
 generalize l.getD k 0=v at *
 clear hB hk hm hA;go_enter Tryz.func171,Tryz.ntmps171;go_wp2_with (first
  | (refine aP rfl 265 (.tmp 1) rfl b 0 rfl C _ (ae HR) Tryz.underlying265 rfl (by rw[ae HS];exact Tryz.infoLenK) ?_)
  | (go_at_call 172;refine(ae HP).mono ?_;rintro e x1 ⟨rfl,hb1⟩;have k1:=qW hb1;obtain⟨m0,m1,_⟩:=ci k1;obtain⟨n0,n1⟩:=lm k1))
 have k2:=oy k1 (.int .i64 u) (.int .i64 v);obtain⟨r0,r1,_⟩:=ci k2;refine bodyPost_ret (v:=.agg #[.int .i64 u,.int .i64 v]) (by simp[results,Tryz.results171,go_sem,r0,r1]) rfl ⟨by rw[ae HPc],?_⟩;exact ai (ai (aj (ae HA) hb1) (Nat.le_refl _) _) (Nat.le_refl _) _
def gr(l:List Int)(t:List Int):List (Int×Int):=t.map fun x=>pcS l x.toNat
theorem zV(l t:List Int)(k:Nat)(h:k<t.length):gr l (t.take (k+1))=gr l (t.take k)++[pcS l (t.getD k 0).toNat]:=by
 unfold gr;rw[cz t k h,List.map_append];rfl
theorem CQ(a:Option Addr)(cap n b base:Nat)(t l:List Int)(C:Array Value)(w:World)(hn:t.length=n)(h:bC w a t)(hm:n<=1000)(hB:ql w b base l C)(hl:l.length<=300)(hall:∀i,i<t.length->0<=t.getD i 0/\t.getD i 0<(l.length:Int)) :
  Calls Tryz.prog 122 #[.slice a n cap,.func (.func 171) #[] #[.pointer (some ⟨b,0,none⟩)]] w fun e w'=>∃v,e = .returned v/\Pcs w' w.heap.size v (gr l t)/\Below w.heap.size w w':=by
 have hmI:(n:Int)<=1000:=by omega
 have Hn:=af hn;have Hm:=af hm;have Hl:=af hl;have HA:=af hall;have HB:=af hB;clear hn hm hall hl hB;obtain⟨i0,hi,hz0,hz1,hz2⟩:=info_parts Tryz.infoPiece;go_enter Tryz.func122,Tryz.ntmps122;go_wp2_with fail
 go_loopw [5,7,10] (fun o _ i wr=>∃k:Nat,k<=n/\i = .int .i64 k/\Pcs wr w.heap.size o (gr l (t.take k))/\Below w.heap.size w wr) (fun _ _ i _=>n-(intOf i).toNat)
 case atStart=>exact⟨0,Nat.zero_le _,rfl,World.ownsRow_nil _ _ _ _,Below.refl _ _⟩
 case round=>
  obtain⟨k,hk,rfl,hq,hbel⟩:=hrel;have hbs:=hbel.size;by_cases hlt:k<n
  ·
   obtain⟨g,o,rfl,hg,hcc⟩:=(h.later hbel) (by rw[ae Hn];omega);have c0:=hcc k (by rw[ae Hn];exact hlt);have hst:=af (zV l t k (by rw[ae Hn];exact hlt));have hlk:Hid ((gr l (t.take k)).length=k):=by show(gr l (t.take k)).length=k;unfold gr;have:=ae Hn;simp;omega
   obtain⟨y0,y1⟩:=ae HA k (by rw[ae Hn];exact hlt);have Hk:=af hk;clear hcc hk h;generalize t.getD k 0=y at *
   obtain⟨q,rfl⟩:=Int.eq_ofNat_of_zero_le y0;rw[Int.toNat_natCast]at hst;have HP:=af (yD q b base l C wr ((ae HB).later hbel) (by omega) (ae Hl));generalize hR:pcS l q=R at *
   clear hR;obtain⟨R1,R2⟩:=R;go_wp2_with fail;refine(ae HP).mono ?_;rintro e x1 ⟨rfl,hb1⟩;have hq1:=Pcs.later hq hb1 (Nat.le_refl _);have hbel1:=aj hbel hb1;have hbs1:=hbel1.size;have hlen1:Hid ((gr l (t.take k)).length+1<=maxLen/\((gr l (t.take k)).length+1)*16<=140737488355328):=by
    show _/\_;rw[ae hlk];have:=ae Hm;unfold maxLen;omega
   clear hq hbel hb1 HP;go_wp2_with (at_builtin;refine wpList_append_own _ rfl _ _ 177 rfl w.heap.size 180 i0 (.agg #[.int .i64 0,.int .i64 0]) 2 16 Tryz.underlying177 hi hz0 hz1 hz2 rfl (by decide) _ _ _ rfl (World.ownsRow.alloc hq1 _) ⟨x1.heap.size,0,none⟩ 1 1 [.int .i64 R1,.int .i64 R2] rfl rfl (qj x1 _ _ _) (qi _ _) (ae hlen1).1 (ae hlen1).2 (aB hbs1 _) ?_;intro v' x2 hown hgrow hnil;clear hnil);have hb2:=aK (v:=u5) hgrow hq1 (Nat.le_refl _) hbs1 hbel1;have hq2:=kC hown;rw[←ae hst]at hq2;clear hown hgrow hq1;go_wp2;go_roundw
   case rel=>exact⟨k+1,by have:=ae Hk;omega,by go_num,hq2,hb2⟩
   case measure=>simp[intOf];omega
  · have hlk2:t.take k=t:=List.take_of_length_le (by rw[ae Hn];omega);rw[hlk2]at hq;obtain⟨va,vc,rfl⟩:=hq.form;clear hlk2 h;go_wp2;go_ret;exact⟨_,rfl,hq,hbel⟩
end Go.Proofs.YtkpfkgoiaicgbaaGreatDoor
namespace Go.Proofs.YtkpfkgoiaicgbaaGreatDoor
open Go.RowKit Go.Shelf Corb
attribute [local go_sem] Oper.semAt_some
theorem nM{F:Fence}{n:Nat}{P:Program}{ops:Array Oper}{o:Oper}{a:Act}{w:World}{K:Act->World->Prop}{Q:Exit->Act->World->Prop}{E:Prop}
  (hg:o.guard=none) (l c:Operand) (t:TypeId) (hop:o.op=Op.makeSlice t l c)
  (base:Nat) (e:TypeId) (i:TypeInfo) (z:Value) (size:Nat) (h1:P.underlying t=some (.slice e)) (h2:P.info? e=some i) (h3:i.zero=some z) (h4:i.size=size)
  (kl kc:IntKind) (L C:Int) (k:Nat) (hl:a.eval l = .int kl L) (hc:a.eval c = .int kc C) (hL:L=(k:Int)) (hC:C=(k:Int)) (b2:i.bytes*k<=281474976710656) (b3:k<=maxLen) (b4:base<=w.heap.size)
  (hK:∀g w',w.heap.size=g->w'.ownsRow base e size (.slice (some ⟨g,0,none⟩) k k) k (madeCells z.cells (k*size)).toList->w.grownBy w' none->K (a.put o.dst (.slice (some ⟨g,0,none⟩) k k)) w') :
  if Region.wanted o (yielded ops a.tmps)=true then Oper.wpIn F n P o a w K Q else E:=by
 have hw:Region.wanted o (yielded ops a.tmps)=true:=by simp[Region.wanted,hg]
 rw[if_pos hw];obtain⟨w',hrun,r1,r2⟩:=run_make_full (P:=P) w base t e i z size h1 h2 h3 h4 kl kc k b2 b3 b4;subst hL;subst hC;unfold Oper.wpIn;refine⟨?_,?_⟩
 · simp[Oper.about,hop]
 · rw[Oper.semAt_plain F _ _ (by rw[hop];intro c hc';cases hc')];simp[execOp,hop,hl,hc,hrun,Result.andThen];exact hK _ w' rfl r1 r2
theorem wP{β:Type}(n₀:Nat)(v:Value)(f:β->List Int):Own (fun(b:β) W=>ar W n₀ v (f b)):=fun b X _ row hs hg hrow=>by
 refine World.ownsRow.kept hs hg ?_;rcases hs.2 with⟨rfl,_⟩|⟨g,cap,cur,rfl,_,hgb,_⟩
 · exact .inl rfl
 ·
  refine .inr fun e'=>?_;obtain⟨o,ho,hc⟩:=hrow g e'.symm;rw[show X.heap[g]?=_ from hgb]at ho;cases ho
  cases hc
def Sts(n₀:Nat)(w W:World)(r10 r11:Option Nat)(r4 r5:Option (Nat×Value)):Prop:=
 Below n₀ w W/\(∀g,r10=some g->ar W n₀ (.slice (some ⟨g,0,none⟩) 286 286) (List.replicate 286 0))/\(∀g,r11=some g->ar W n₀ (.slice (some ⟨g,0,none⟩) 30 30) (List.replicate 30 0)) /\
 (∀b v,r4=some (b,v)->n₀<=b/\Boxed W b 154 v)/\(∀b v,r5=some (b,v)->n₀<=b/\Boxed W b 154 v)/\(∀g g',r10=some g->r11=some g'->g≠g')/\(∀b v b' v',r4=some (b,v)->r5=some (b',v')->b≠b')/\n₀<=W.heap.size
theorem kg{W W':World}(h:W.grownBy W' none):Below W.heap.size W W':=(Below.refl _ _).grown h (Nat.le_refl _) (fun j hj=>by cases hj)
theorem Sts.later{n₀:Nat}{w W W':World}{r10 r11:Option Nat}{r4 r5:Option (Nat×Value)}(h:Sts n₀ w W r10 r11 r4 r5)(hb:Below W.heap.size W W'):Sts n₀ w W' r10 r11 r4 r5:=by
 obtain⟨h0,h1,h2,h3,h4,h5,h6,h7⟩:=h;exact⟨h0.trans (hb.mono h7),fun g e=>(h1 g e).later hb (Nat.le_refl _),fun g e=>(h2 g e).later hb (Nat.le_refl _),fun b v e=>⟨(h3 b v e).1,Boxed.later (h3 b v e).2 hb⟩,fun b v e=>⟨(h4 b v e).1,Boxed.later (h4 b v e).2 hb⟩,h5,h6,Nat.le_trans h7 hb.size⟩
theorem Sts.make10{n₀:Nat}{w W W':World}{r11:Option Nat}{r4 r5:Option (Nat×Value)}(h:Sts n₀ w W none r11 r4 r5){g:Nat}(hg:W.grownBy W' none)(hgs:W.heap.size=g)(hn:ar W' n₀ (.slice (some ⟨g,0,none⟩) 286 286) (List.replicate 286 0)):Sts n₀ w W' (some g) r11 r4 r5:=by
 subst hgs;have hlt:∀g,r11=some g->g<W.heap.size:=fun g e=>(h.2.2.1 g e).below.2;obtain⟨h0,h1,h2,h3,h4,h5,h6,h7⟩:=h.later (kg hg);exact⟨h0,fun g e=>by cases e;exact hn,h2,h3,h4,fun g g' e e'=>by cases e;have:=hlt g' e';omega,h6,h7⟩
theorem Sts.make11{n₀:Nat}{w W W':World}{r10:Option Nat}{r4 r5:Option (Nat×Value)}(h:Sts n₀ w W r10 none r4 r5){g:Nat}(hg:W.grownBy W' none)(hgs:W.heap.size=g)(hn:ar W' n₀ (.slice (some ⟨g,0,none⟩) 30 30) (List.replicate 30 0)):Sts n₀ w W' r10 (some g) r4 r5:=by
 subst hgs;have hlt:∀g,r10=some g->g<W.heap.size:=fun g e=>(h.2.1 g e).below.2;obtain⟨h0,h1,h2,h3,h4,h5,h6,h7⟩:=h.later (kg hg);exact⟨h0,h1,fun g e=>by cases e;exact hn,h3,h4,fun g g' e e'=>by cases e';have:=hlt g e;omega,h6,h7⟩
theorem Sts.box4{n₀:Nat}{w W:World}{r10 r11:Option Nat}{r5:Option (Nat×Value)}(h:Sts n₀ w W r10 r11 none r5)(v:Value):Sts n₀ w (W.alloc (.cells #[v] 154)) r10 r11 (some (W.heap.size,v)) r5:=by
 have hlt:∀b v,r5=some (b,v)->b<W.heap.size:=fun b v e=>(h.2.2.2.2.1 b v e).2.lt;have h8:=h.2.2.2.2.2.2.2;obtain⟨h0,h1,h2,h3,h4,h5,h6,h7⟩:=h.later ((Below.refl _ W).alloc (Nat.le_refl _) (.cells #[v] 154));exact⟨h0,h1,h2,fun b u e=>by cases e;exact⟨h8,Boxed.new _ _ _⟩,h4,h5,fun b u b' u' e e'=>by cases e;have:=hlt b' u' e';omega,h7⟩
theorem Sts.box5{n₀:Nat}{w W:World}{r10 r11:Option Nat}{r4:Option (Nat×Value)}(h:Sts n₀ w W r10 r11 r4 none)(v:Value):Sts n₀ w (W.alloc (.cells #[v] 154)) r10 r11 r4 (some (W.heap.size,v)):=by
 have hlt:∀b v,r4=some (b,v)->b<W.heap.size:=fun b v e=>(h.2.2.2.1 b v e).2.lt;have h8:=h.2.2.2.2.2.2.2;obtain⟨h0,h1,h2,h3,h4,h5,h6,h7⟩:=h.later ((Below.refl _ W).alloc (Nat.le_refl _) (.cells #[v] 154));exact⟨h0,h1,h2,h3,fun b u e=>by cases e;exact⟨h8,Boxed.new _ _ _⟩,h5,fun b u b' u' e e'=>by cases e';have:=hlt b u e;omega,h7⟩
theorem bI{W:World}{n₀ b g n:Nat}{v:Value}{l:List Int}(h:Boxed W b 154 v)(hr:ar W n₀ (.slice (some ⟨g,0,none⟩) n n) l):b≠g:=by
 intro e;exact h.not_row (by decide) hr (by rw[e];rfl)
theorem jz{W:World}{n₀ b g n:Nat}{v:Value}{l:List Int}(h:Boxed W b 9 v)(hr:ar W n₀ (.slice (some ⟨g,0,none⟩) n n) l):b≠g:=by
 intro e;exact h.not_row (by decide) hr (by rw[e];rfl)
theorem cb{W:World}{B b o:Nat}{t:TypeId}{v:Value}(h:Boxed W B t v)(hne:B≠b)(u:Value):Boxed (W.setCell ⟨b,o,none⟩ u) B t v:=(Below.heap_setCell _ _ _ B hne).trans h
theorem tT{W:World}{n₀ D g n:Nat}{r:Option (List Deferred)}{l:List Int}(h:W.heap[D]?=some (.deferred r))(hr:ar W n₀ (.slice (some ⟨g,0,none⟩) n n) l):D≠g:=by
 rintro rfl;rcases hr.2 with⟨e,_⟩|⟨g,cap,cur,e,_,hgb,_⟩
 · cases e
 · simp only[Value.slice.injEq,Option.some.injEq,Addr.mk.injEq,and_true]at e;rw[←e.1]at hgb;rw[h]at hgb;cases hgb
theorem Kx(l:List Int):bQ l l.length=0<->us l=0:=by
 have hp:∀k,0<=bQ l k:=by
  intro k;induction k with
  | zero=>exact Int.le_refl _
  | succ k ih=>simp only[bQ];split<;>omega
 constructor
 ·
  intro h;rcases Nat.eq_zero_or_pos (us l)with h1|h1
  · exact h1
  ·
   exfalso;have:∃k,k<l.length/\0<l.getD k 0:=by
    clear h hp;induction l with
    | nil=>simp[us]at h1
    | cons b l ih=>
     by_cases hb:0<b
     · exact⟨0,by simp,by simpa using hb⟩
     · obtain⟨k,hk,hp⟩:=ih (by simp only[us,List.map_cons,List.sum_cons,if_neg hb]at h1;simpa[us]using h1);exact⟨k+1,by simpa using hk,by simpa using hp⟩
   obtain⟨k,hk,hp⟩:=this;have:=BH l l.length k hk;omega
 ·
  intro h;have:∀k,k<=l.length->bQ l k=0:=by
   intro k;induction k with
   | zero=>exact fun _=>rfl
   | succ k ih=>
    intro hk;have h1:=Lh h k (by omega);simp only[bQ];rw[ih (by omega),if_neg h1]
  exact this _ (Nat.le_refl _)
theorem Sts.put4{n₀ b:Nat}{w W:World}{v:Value}{r10 r11:Option Nat}{r5:Option (Nat×Value)}(h:Sts n₀ w W r10 r11 (some (b,v)) r5)(u:Value):Sts n₀ w (W.setCell ⟨b,0,none⟩ u) r10 r11 (some (b,u)) r5:=by
 obtain⟨h0,h1,h2,h3,h4,h5,h6,h7⟩:=h;have hb:=h3 b v rfl;exact⟨ai h0 hb.1 u,fun g e=>(h1 g e).setOther (bI hb.2 (h1 g e)) u,fun g e=>(h2 g e).setOther (bI hb.2 (h2 g e)) u,fun b' v' e=>by cases e;exact⟨hb.1,hb.2.set u⟩,fun b' v' e=>⟨(h4 b' v' e).1,(h4 b' v' e).2.other (h6 b v b' v' rfl e).symm u⟩,h5,fun b' v' b'' v'' e e'=>by cases e;exact h6 b v b'' v'' rfl e',by simpa using h7⟩
theorem Sts.put5{n₀ b:Nat}{w W:World}{v:Value}{r10 r11:Option Nat}{r4:Option (Nat×Value)}(h:Sts n₀ w W r10 r11 r4 (some (b,v)))(u:Value):Sts n₀ w (W.setCell ⟨b,0,none⟩ u) r10 r11 r4 (some (b,u)):=by
 obtain⟨h0,h1,h2,h3,h4,h5,h6,h7⟩:=h;have hb:=h4 b v rfl;exact⟨ai h0 hb.1 u,fun g e=>(h1 g e).setOther (bI hb.2 (h1 g e)) u,fun g e=>(h2 g e).setOther (bI hb.2 (h2 g e)) u,fun b' v' e=>⟨(h3 b' v' e).1,(h3 b' v' e).2.other (h6 b' v' b v e rfl) u⟩,fun b' v' e=>by cases e;exact⟨hb.1,hb.2.set u⟩,h5,fun b' v' b'' v'' e e'=>by cases e';exact h6 b' v' b v e rfl,by simpa using h7⟩
theorem Sts.fill4{n₀ b g:Nat}{w W:World}{v:Value}{r11:Option Nat}{r5:Option (Nat×Value)}(h:Sts n₀ w W (some g) r11 (some (b,v)) r5):Sts n₀ w (W.setCell ⟨b,0,none⟩ (.slice (some ⟨g,0,none⟩) 286 286)) (some g) r11 (some (b,.slice (some ⟨g,0,none⟩) 286 286)) r5:=h.put4 _
theorem Sts.fill5{n₀ b g:Nat}{w W:World}{v:Value}{r10:Option Nat}{r4:Option (Nat×Value)}(h:Sts n₀ w W r10 (some g) r4 (some (b,v))):Sts n₀ w (W.setCell ⟨b,0,none⟩ (.slice (some ⟨g,0,none⟩) 30 30)) r10 (some g) r4 (some (b,.slice (some ⟨g,0,none⟩) 30 30)):=h.put5 _
def iO{s:ByteArray}(pre:List (TkS s)):List Int:=ip (List.replicate 286 0) ((pre.map Subtype.val).map kp)
def bP{s:ByteArray}(pre:List (TkS s)):List Int:=ip (List.replicate 30 0) ((pre.map Subtype.val).flatMap eT)
theorem ko{s:ByteArray}(pre:List (TkS s)):(iO pre).length=286:=by unfold iO;rw[gZ,List.length_replicate]
theorem iW{s:ByteArray}(pre:List (TkS s)):(bP pre).length=30:=by unfold bP;rw[gZ,List.length_replicate]
theorem zX{s:ByteArray}(pre:List (TkS s))(x:TkS s)(h:isB x.1=true):iO (pre++[x])=inc (iO pre) x.1.1.toNat:=by
 unfold iO;rw[List.map_append,List.map_append,List.map_singleton,List.map_singleton,lj];have:kp x.1=x.1.1.toNat:=by unfold kp;rw[if_pos h]
 rw[this]
theorem zY{s:ByteArray}(pre:List (TkS s))(x:TkS s)(h:isB x.1=false):iO (pre++[x])=inc (iO pre) (257+fnd 3 4 x.1.2.1.toNat 27):=by
 unfold iO;rw[List.map_append,List.map_append,List.map_singleton,List.map_singleton,lj];have:kp x.1=257+fnd 3 4 x.1.2.1.toNat 27:=by unfold kp;rw[if_neg (by simp[h])]
 rw[this]
theorem wb{s:ByteArray}(pre:List (TkS s))(x:TkS s)(h:isB x.1=true):bP (pre++[x])=bP pre:=by
 unfold bP;rw[List.map_append,List.flatMap_append,List.map_singleton];have:[x.1].flatMap eT=[]:=by simp[eT,h]
 rw[this,List.append_nil]
theorem we{s:ByteArray}(pre:List (TkS s))(x:TkS s)(h:isB x.1=false):bP (pre++[x])=inc (bP pre) (fnd 1 2 x.1.2.2.toNat 29):=by
 unfold bP;rw[List.map_append,List.flatMap_append,List.map_singleton];have:[x.1].flatMap eT=[fnd 1 2 x.1.2.2.toNat 29]:=by simp[eT,h]
 rw[this,lj]
theorem uV(n:Nat)(l:List Nat)(k:Nat):0<=(ip (List.replicate n 0) l).getD k 0/\(ip (List.replicate n 0) l).getD k 0<=(l.length:Int):=by
 rw[ng,lJ];have:l.count k<=l.length:=List.count_le_length
 split<;>omega
theorem vf{s:ByteArray}(pre:List (TkS s))(k:Nat):0<=(iO pre).getD k 0/\(iO pre).getD k 0<=(pre.length:Int):=by
 have:=uV 286 ((pre.map Subtype.val).map kp) k;rw[List.length_map,List.length_map]at this;exact this
theorem qA{s:ByteArray}(pre:List (TkS s))(k:Nat):0<=(bP pre).getD k 0/\(bP pre).getD k 0<=(pre.length:Int):=by
 have h1:=uV 30 ((pre.map Subtype.val).flatMap eT) k;have h2:=wt (pre.map Subtype.val);rw[List.length_map]at h2;exact⟨h1.1,by have:=h1.2;unfold bP;omega⟩
set_option maxRecDepth 100000 in
theorem pM(s:ByteArray)(w:World)(hs:s.size<=300)  :
  Calls Tryz.prog 127 #[.string s] w fun e w'=>(∃gl gd,e = .returned (.tuple #[.slice (some ⟨gl,0,none⟩) 286 286,.slice (some ⟨gd,0,none⟩) 30 30])/\ar w' w.heap.size (.slice (some ⟨gl,0,none⟩) 286 286) (gi (bh s.data.toList 0))/\ar w' w.heap.size (.slice (some ⟨gd,0,none⟩) 30 30) (cX (bh s.data.toList 0)))/\Below w.heap.size w w':=by
 obtain⟨i0,hi,hz0,hz1,hz2⟩:=info_parts Tryz.infoInt;have hsI:(s.size:Int)<=300:=by omega
 have hmx:Tryz.prog.follows .mixedOrders=true:=by kernel_rfl
 refine(callsIn_wide (n:=6)).1 ?_;refine callsIn_of_wp_marks Tryz.func127 rfl trivial ?_ rfl;simp only[Tryz.ntmps127,List.size_toArray,List.length_cons,List.length_nil,Nat.reduceAdd,Nat.reduceSub,Array.replicate_succ,Array.replicate_zero,List.push_toArray,List.append_toArray,List.nil_append,List.cons_append]
 gi_wp2
 rename_i Q' K hKr
 suffices hK:∀(gl gd bl bd:Nat) (W:World),Sts w.heap.size w W (some gl) (some gd) (some (bl,.slice (some ⟨gl,0,none⟩) 286 286)) (some (bd,.slice (some ⟨gd,0,none⟩) 30 30)) ->
   K { tmps:=#[.string s,undef,.slice none 0 0,.slice none 0 0,.pointer (some ⟨bl,0,none⟩),.pointer (some ⟨bd,0,none⟩),undef,undef,undef,undef,.slice (some ⟨gl,0,none⟩) 286 286,.slice (some ⟨gd,0,none⟩) 30 30,undef,undef,undef,undef,undef,undef,undef,undef,undef,undef,undef,undef,undef,undef,undef,undef,undef,undef,undef,undef,undef,undef,undef,undef,undef,undef,undef,undef,undef,undef,undef,undef,undef,undef,undef,undef,undef,undef,undef,undef,undef,undef,undef,undef,undef,undef,undef],defers:=[] } W by
  clear hKr;have hs0:Sts w.heap.size w w.drew none none none none:=⟨(Below.refl _ _).drew,nofun,nofun,nofun,nofun,nofun,nofun,Nat.le_refl _⟩;refine wpIn_region_any hmx ?_;change wpAnyIn _ _ _ _ _ _ _ _ _ (World.drew _);generalize w.drew=W at hs0 ⊢;have hs:=hs0;clear hs0;repeat' first
   | exact AllReadyIn.nil
   | refine AllReadyIn.cons rfl (fun K1 hK1=>?_) ?_
   | (refine nM rfl _ _ 154 rfl w.heap.size 3 i0 (.int .i64 0) 1 Tryz.underlying154 hi hz0 hz1 .i64 .i64 286 286 286 rfl rfl rfl rfl (by rw[hz2];omega) (by unfold maxLen;omega) hs.2.2.2.2.2.2.2 ?_;intro g W hg ho hgr;have hs:=hs.make10 hgr hg (gE ho);refine hK1 _ _ ?_;clear hK1 K1 ho hgr hg)
   | (refine nM rfl _ _ 154 rfl w.heap.size 3 i0 (.int .i64 0) 1 Tryz.underlying154 hi hz0 hz1 .i64 .i64 30 30 30 rfl rfl rfl rfl (by rw[hz2];omega) (by unfold maxLen;omega) hs.2.2.2.2.2.2.2 ?_;intro g W hg ho hgr;have hs:=hs.make11 hgr hg (gE ho);refine hK1 _ _ ?_;clear hK1 K1 ho hgr hg)
   | (refine eO 4 rfl ?_;have hs:=hs.box4 (.slice none 0 0);go_simp;refine hK1 _ _ ?_;clear hK1 K1;generalize W.alloc (.cells #[.slice none 0 0] 154)=V at hs ⊢;generalize W.heap.size=g at hs ⊢;revert V;intro W hs)
   | (refine eO 5 rfl ?_;have hs:=hs.box5 (.slice none 0 0);go_simp;refine hK1 _ _ ?_;clear hK1 K1;generalize W.alloc (.cells #[.slice none 0 0] 154)=V at hs ⊢;generalize W.heap.size=g at hs ⊢;revert V;intro W hs)
   | (refine Ft (Op.store 154 (.tmp 4) (.tmp 10)) rfl ?_;have hc:=(hs.2.2.2.1 _ _ rfl).2.cell;have hf:=(hs.2.2.2.1 _ _ rfl).2.frozen;have hs:=hs.fill4;go_simp;refine hK1 _ _ ?_;clear hK1 K1 hc hf;revert hs;generalize W.setCell ⟨_,0,none⟩ _=V;intro hs;revert V;intro W hs)
   | (refine Ft (Op.store 154 (.tmp 5) (.tmp 11)) rfl ?_;have hc:=(hs.2.2.2.2.1 _ _ rfl).2.cell;have hf:=(hs.2.2.2.2.1 _ _ rfl).2.frozen;have hs:=hs.fill5;go_simp;refine hK1 _ _ ?_;clear hK1 K1 hc hf;revert hs;generalize W.setCell ⟨_,0,none⟩ _=V;intro hs;revert V;intro W hs)
   | (refine wpAnyIn_done (by decide +kernel) ?_ _;exact hK _ _ _ _ _ hs)
   | refine wpAnyIn_ready (rs:=[0,1,2,3]) (by decide +kernel) (by simp) ?_
   | refine wpAnyIn_ready (rs:=[1,2,3]) (by decide +kernel) (by simp) ?_
   | refine wpAnyIn_ready (rs:=[2,3]) (by decide +kernel) (by simp) ?_
   | refine wpAnyIn_ready (rs:=[3]) (by decide +kernel) (by simp) ?_
   | refine wpAnyIn_ready (rs:=[4]) (by decide +kernel) (by simp) ?_
   | refine wpAnyIn_ready (rs:=[5]) (by decide +kernel) (by simp) ?_
   | refine wpAnyIn_ready (rs:=[2]) (by decide +kernel) (by simp) ?_
   | refine wpAnyIn_ready (rs:=[1,3]) (by decide +kernel) (by simp) ?_
   | refine wpAnyIn_ready (rs:=[1,4]) (by decide +kernel) (by simp) ?_
   | refine wpAnyIn_ready (rs:=[1]) (by decide +kernel) (by simp) ?_
   | refine wpAnyIn_ready (rs:=[1,2]) (by decide +kernel) (by simp) ?_
   | refine wpAnyIn_ready (rs:=[0,2,3]) (by decide +kernel) (by simp) ?_
   | refine wpAnyIn_ready (rs:=[0,3]) (by decide +kernel) (by simp) ?_
   | refine wpAnyIn_ready (rs:=[0]) (by decide +kernel) (by simp) ?_
   | refine wpAnyIn_ready (rs:=[0,2]) (by decide +kernel) (by simp) ?_
   | refine wpAnyIn_ready (rs:=[0,1,3]) (by decide +kernel) (by simp) ?_
   | refine wpAnyIn_ready (rs:=[0,1]) (by decide +kernel) (by simp) ?_
   | refine wpAnyIn_ready (rs:=[0,1,2]) (by decide +kernel) (by simp) ?_
 intro gl gd bl bd W hSt;refine hKr _ _ ?_;clear hKr;have hl0:=hSt.2.1 gl rfl;have hd0:=hSt.2.2.1 gd rfl;obtain⟨hb4,x40⟩:=hSt.2.2.2.1 bl _ rfl;obtain⟨hb5,x50⟩:=hSt.2.2.2.2.1 bd _ rfl;have hgg:gl≠gd:=hSt.2.2.2.2.2.1 gl gd rfl rfl;have hbb:bl≠bd:=hSt.2.2.2.2.2.2.1 bl _ bd _ rfl rfl;have hBw:=hSt.1;have hnw:=hSt.2.2.2.2.2.2.2;clear hSt
 gi_wp2_with (refine⟨trivial,?_⟩;gi_at_call 159;refine(callsIn_wide.2 (nt s _)).mono ?_;rintro e w' ⟨rfl,rfl⟩)
 have bN:=Boxed.new W 9 (.string s);have hA:Below W.heap.size W (W.alloc (.cells #[.string s] 9)):=(Below.refl _ W).alloc (Nat.le_refl _) _;have lb4:bl<W.heap.size:=x40.lt;have lb5:bd<W.heap.size:=x50.lt;refine wpIn_rangeFunc_ownG rfl (by omega) (gf:=186) (lb:=#[.pointer (some ⟨W.heap.size,0,none⟩)]) rfl trivial (enters_of Tryz.func186 (by kernel_rfl) rfl)
  (py 5 (by omega) W.heap.size s (by omega) _ bN) Bu (fun W l o o' _ h1 h2 _=>Bt W l o o' h1 h2) (Below.refl _ _) (fun _=>rfl)
  (fun(pre:List (TkS s)) X=>((((ar X w.heap.size (.slice (some ⟨gl,0,none⟩) 286 286) (iO pre)/\ar X w.heap.size (.slice (some ⟨gd,0,none⟩) 30 30) (bP pre))/\Boxed X bl 154 (.slice (some ⟨gl,0,none⟩) 286 286))/\Boxed X bd 154 (.slice (some ⟨gd,0,none⟩) 30 30))/\Below w.heap.size w X)/\Boxed X W.heap.size 9 (.string s))
  (fun _ _ _=>False)
  (OwnFrom.and (OwnFrom.and (OwnFrom.and (OwnFrom.and (OwnFrom.and (Own.from (wP _ _ iO) _) (Own.from (wP _ _ bP) _)) (Own.from (boxed_own _ _ _) _)) (Own.from (boxed_own _ _ _) _)) (ownFrom_below (Nat.le_refl _) (by simp;omega))) (Own.from (boxed_own _ _ _) _))
  (fun _ _ _ _ _ hs _ _=>hs)
  ⟨⟨⟨⟨⟨hl0.later hA (Nat.le_refl _),hd0.later hA (Nat.le_refl _)⟩,Boxed.later x40 hA⟩,Boxed.later x50 hA⟩,hBw.trans (hA.mono hnw)⟩,bN⟩
  (fun x=>{ tmps:=#[.string s,undef,.slice none 0 0,.slice none 0 0,.pointer (some ⟨bl,0,none⟩),.pointer (some ⟨bd,0,none⟩),dX x.1,undef,undef,undef,.slice (some ⟨gl,0,none⟩) 286 286,.slice (some ⟨gd,0,none⟩) 30 30,.string s,.func (.func 186) #[] #[.pointer (some ⟨W.heap.size,0,none⟩)],dX x.1,undef,undef,undef,undef,undef,undef,undef,undef,undef,undef,undef,undef,undef,undef,undef,undef,undef,undef,undef,undef,undef,undef,undef,undef,undef,undef,undef,undef,undef,undef,undef,undef,undef,undef,undef,undef,undef,undef,undef,undef,undef,undef,undef,undef],defers:=[] }) ?assign ?body ?done ?stop
 case assign=>
  intro l x W K hK
  gi_wp2
  exact hK
 case body=>
  rintro l pre x X ⟨⟨⟨⟨⟨hl,hd⟩,x4⟩,x5⟩,hB⟩,hN⟩ hlt;have hc4:=x4.cell;have hc5:=x5.cell;have hll:=ko pre;have hdl:=iW pre;have m1:=jd;have m2:=kU;have m3:=jc;cases hb:isB x.1
  ·
   have hk:isK x.1=true:=by have:=x.2.1;unfold okT at this;rw[hb]at this;simpa using this
   obtain⟨q1,q2,q3,q4⟩:=zN hk;have f1:x.1.2.1=((x.1.2.1.toNat:Nat):Int):=by omega
   have f2:x.1.2.2=((x.1.2.2.toNat:Nat):Int):=by omega
   have e2:dX x.1 = .iface 254 (.agg #[.int .i64 ((x.1.2.1.toNat:Nat):Int),.int .i64 ((x.1.2.2.toNat:Nat):Int)]):=by rw[←f1,←f2];exact mF hk
   have hx1:=zY pre x hb;have hx2:=we pre x hb;have b1:=vf pre (257+fnd 3 4 x.1.2.1.toNat 27);have b2:=qA pre (fnd 1 2 x.1.2.2.toNat 29);have HSp:=af (fun W=>yk x.1.2.1.toNat x.1.2.2.toNat W (by omega) (by omega) (by omega) (by omega));have k1:=iL 3 4 x.1.2.1.toNat 27;have k2:=iL 1 2 x.1.2.2.toNat 29;rw[e2];generalize x.1.2.1.toNat=y at *
   generalize x.1.2.2.toNat=z at *
   generalize fnd 3 4 y 27=p at *
   generalize fnd 1 2 z 29=q at *
   have hc1:=hl.at hll (show 257+p<286 by omega);generalize hya:(iO pre).getD (257+p) 0=ya at *
   generalize hza:(bP pre).getD q 0=za at *
   have hpI:(257:Int)+(p:Int)<286:=by omega
   have hqI:(q:Int)<30:=by omega
   have hyI:ya<=300:=by omega
   have hzI:za<=300:=by omega
   have hy0:0<=ya:=by omega
   have hz0':0<=za:=by omega
   have hne4:=bI x4 hl;have hne5:=bI x5 hl;have hne6:=bI x4 hd;have hne7:=bI x5 hd;have HX:Hid (∀Z,Below X.heap.size X Z->ar Z w.heap.size (.slice (some ⟨gl,0,none⟩) 286 286) (iO pre)/\ar Z w.heap.size (.slice (some ⟨gd,0,none⟩) 30 30) (bP pre)/\Boxed Z bl 154 (.slice (some ⟨gl,0,none⟩) 286 286)/\Boxed Z bd 154 (.slice (some ⟨gd,0,none⟩) 30 30)/\Boxed Z W.heap.size 9 (.string s)):=fun Z h=>⟨hl.later h (Nat.le_refl _),hd.later h (Nat.le_refl _),Boxed.later x4 h,Boxed.later x5 h,Boxed.later hN h⟩;have hgl:=hl.below.2;have hgd:=hd.below.2;have HPQ:=af (And.intro (show 257+p<286 by omega) (show q<30 by omega));have H1:=af hx1;have H2:=af hx2;have HYa:=af hya;have HZa:=af hza;have HB:=af hB;have Hne:=af (And.intro hne4 (And.intro hne5 (And.intro hne6 hne7)));have hBX:=hB.size;have hNW:=hN.lt;clear hx1 hx2 hya hza b1 b2 k1 k2 q1 q2 q3 q4 f1 f2 e2 hc1 hl hd x4 x5 hN hlt hB
   gi_wp2_with (refine⟨trivial,?_⟩;gi_at_call 162;refine(CallsIn.inRound l (callsIn_wide.2 (ae HSp _))).mono ?_;rintro e X1 ⟨rfl,hX1⟩;have hX1b:Below X.heap.size X X1:=aj ((Below.refl _ X).alloc (Nat.le_refl _) _) hX1;have hs1:=hX1b.size;have hZ:Hid (∀v,Below X.heap.size X (X1.alloc (.cells v 256))):=fun v=>hX1b.alloc hs1 _;have z1:=fun v=>(ae HX _ (ae hZ v)).2.2.1.cell;have z2:=fun v=>(ae HX _ (ae hZ v)).2.2.2.1.cell;have z3:=fun v=>((ae HX _ (ae hZ v)).1.at (ko pre) (ae HPQ).1).1;have z4:=fun v=>((ae HX _ (ae hZ v)).1.at (ko pre) (ae HPQ).1).2.1;have z5:=fun v=>((ae HX _ (ae hZ v)).2.1.at (iW pre) (ae HPQ).2).1;have z6:=fun v=>((ae HX _ (ae hZ v)).2.1.at (iW pre) (ae HPQ).2).2.1;rw[ae HYa]at z3;rw[ae HZa]at z5;have n1:¬ X1.heap.size=gl:=(by omega);have n2:¬ gl=X1.heap.size:=(by omega);have n3:¬ gd=gl:=(fun e=>hgg e.symm);have HX1:=af hX1b;clear hX1 hX1b)
   refine(fun Z (hZZ:Below X.heap.size X Z)=>?_:∀Z,Below X.heap.size X Z->ownPostG _ _ _ _ _ _ _ _ ((Z.setCell ⟨gl,257+p,none⟩ (.int .i64 (ya+1))).setCell ⟨gd,q,none⟩ (.int .i64 (za+1)))) _ (ae hZ _);obtain⟨hl,hd,x4,x5,hN⟩:=ae HX Z hZZ;obtain⟨e4,e5,e6,e7⟩:=ae Hne;have e8:=jz hN hl;have e9:=jz hN hd;have hl2:ar ((Z.setCell ⟨gl,257+p,none⟩ (.int .i64 (ya+1))).setCell ⟨gd,q,none⟩ (.int .i64 (za+1))) w.heap.size (.slice (some ⟨gl,0,none⟩) 286 286) (iO (pre++[x])):=by
    have:=hl.put (j:=257+p) (ko pre) (ya+1);rw[ae H1];unfold inc;rw[ae HYa];exact this.setOther hgg.symm _
   have hd2:ar ((Z.setCell ⟨gl,257+p,none⟩ (.int .i64 (ya+1))).setCell ⟨gd,q,none⟩ (.int .i64 (za+1))) w.heap.size (.slice (some ⟨gd,0,none⟩) 30 30) (bP (pre++[x])):=by
    have:=(hd.setOther (g':=gl) (o:=257+p) hgg (.int .i64 (ya+1))).put (j:=q) (iW pre) (za+1);rw[ae H2];unfold inc;rw[ae HZa];exact this
   exact⟨(((KeepsOthers.of_grownBy (dI hZZ) (fun _ _ e=>by cases e)).trans (KeepsOthers.setCell _ _ _)).trans (KeepsOthers.setCell _ _ _)).from _,fun _=>cb (cb hN e8 _) e9 _,⟨⟨⟨⟨⟨hl2,hd2⟩,cb (cb x4 e4 _) e6 _⟩,cb (cb x5 e5 _) e7 _⟩,ai (ai ((ae HB).trans (hZZ.mono hBX)) hl.below.1 _) hd.below.1 _⟩,cb (cb hN e8 _) e9 _⟩⟩
  ·
   obtain⟨q1,q2⟩:=uX hb;have f1:x.1.1=((x.1.1.toNat:Nat):Int):=by omega
   have e2:dX x.1 = .iface 252 (.int .u8 ((x.1.1.toNat:Nat):Int)):=by rw[←f1];exact jB hb
   have hx1:=zX pre x hb;have hx2:=wb pre x hb;have b1:=vf pre x.1.1.toNat
   rw[e2];generalize x.1.1.toNat=k at *
   have hc1:=hl.at hll (show k<286 by omega);generalize hya:(iO pre).getD k 0=ya at *
   have hkI:(k:Int)<286:=by omega
   have hyI:ya<=300:=by omega
   have hy0:0<=ya:=by omega
   have hPl:Hid (ar (X.setCell ⟨gl,k,none⟩ (.int .i64 (ya+1))) w.heap.size (.slice (some ⟨gl,0,none⟩) 286 286) (iO (pre++[x]))):=by
    have:=hl.put (j:=k) hll (ya+1);rw[hx1];unfold inc;rw[hya];exact this
   have hPd:Hid (ar (X.setCell ⟨gl,k,none⟩ (.int .i64 (ya+1))) w.heap.size (.slice (some ⟨gd,0,none⟩) 30 30) (bP (pre++[x]))):=by
    rw[hx2];exact hd.setOther hgg _
   have hne4:=bI x4 hl;have hne5:=bI x5 hl;obtain⟨c1,c2,c3,c4⟩:=hc1;clear hx1 hx2 hya b1 hlt q1 q2 f1 e2
   gi_wp2
   exact⟨(KeepsOthers.setCell _ _ _).from _,fun _=>cb hN (jz hN hl) _,⟨⟨⟨⟨⟨ae hPl,ae hPd⟩,cb x4 hne4 _⟩,cb x5 hne5 _⟩,ai hB c3 _⟩,cb hN (jz hN hl) _⟩⟩
 case done=>
  rintro D ys X hD hys ⟨⟨⟨⟨⟨hl,hd⟩,x4⟩,x5⟩,hB⟩,hN⟩ hK;have hc4:=x4.cell;have hc5:=x5.cell;have hll:=ko ys;have hdl:=iW ys;have hfew:=yC s hs hys;have b1:=vf ys 256;have b2:=qA ys 0;have hL:iO ys=ip (List.replicate 286 0) ((bh s.data.toList 0).map kp):=by unfold iO;rw[hys]
  have hDd:bP ys=jJ (bh s.data.toList 0):=by unfold bP jJ;rw[hys]
  have hLC:inc (iO ys) 256=gi (bh s.data.toList 0):=by unfold gi;rw[hL]
  have hc1:=hl.at hll (show 256<286 by omega);have hne4:=bI x4 hl;have hne5:=bI x5 hl;have hne6:=bI x5 hd;have hne7:=bI x4 hd;have hD1:D≠gl:=fun e=>by subst e;exact tT hK hl rfl
  have hD2:D≠gd:=fun e=>by subst e;exact tT hK hd rfl
  have hDw:w.heap.size<=D:=by simp at hD;omega
  have hzb:(bP ys).getD 0 0<=300:=by omega
  have hposD:∀i,i<(bP ys).length->0<=(bP ys).getD i 0:=fun i _=>(qA ys i).1;generalize hya:(iO ys).getD 256 0=ya at *
  have hyI:ya<=300:=by omega
  have hy0:0<=ya:=by omega
  have hPl:ar (X.setCell ⟨gl,256,none⟩ (.int .i64 (ya+1))) w.heap.size (.slice (some ⟨gl,0,none⟩) 286 286) (gi (bh s.data.toList 0)):=by
   have:=hl.put (j:=256) hll (ya+1);rw[←hLC];unfold inc;rw[hya];exact this
  have hPd:ar (X.setCell ⟨gl,256,none⟩ (.int .i64 (ya+1))) w.heap.size (.slice (some ⟨gd,0,none⟩) 30 30) (bP ys):=hd.setOther hgg _;have hx5:=cb (o:=256) x5 hne5 (.int .i64 (ya+1));have hcx:=hx5.cell;have hKx:(X.setCell ⟨gl,256,none⟩ (.int .i64 (ya+1))).heap[D]?=some (.deferred (some [])):=(Below.heap_setCell _ _ _ D hD1).trans hK;have hBx:Below w.heap.size w (X.setCell ⟨gl,256,none⟩ (.int .i64 (ya+1))):=ai hB hl.below.1 _;obtain⟨c1,c2,c3,c4⟩:=hc1;have HM:=af (ry (some ⟨gd,0,none⟩) 30 30 (bP ys) (X.setCell ⟨gl,256,none⟩ (.int .i64 (ya+1))) hdl (hPd.rowN hdl) (by omega) (by omega) hposD);have HUs:=af (Kx (bP ys));rw[hdl]at HUs;have HPl:=af hPl;have HPd:=af hPd;have HKx:=af hKx;have HBx:=af hBx;have hdz:=hPd.at hdl (show 0<30 by omega);obtain⟨d1,d2,d3,d4⟩:=hdz;have Hdb:=af hDd;have Hdl:=af hdl;clear hl hd x4 x5 hN hB hK hys hL hLC b1 hPl hPd hKx hBx hx5 hDd hdl hposD hfew hll c3 c4;by_cases hu:us (bP ys)=0
  ·
   have hm0:Hid (bQ (bP ys) 30=0):=(ae HUs).2 hu;rw[ae hm0]at HM;generalize hza:(bP ys).getD 0 0=za at *
   have hz0':0<=za:=b2.1
   gi_wp2_with (refine⟨trivial,?_⟩;gi_at_call 163;refine(callsIn_wide.2 (ae HM)).mono ?_;rintro e x1 ⟨rfl,hx1⟩;rw[hx1];clear hx1)
   gi_region
   gi_wp2
   refine⟨by simp,.inl ⟨_,_,rfl,run_takeDeferred ((Below.heap_setCell _ _ _ D hD2).trans (ae HKx)),?_⟩⟩;have hKy:((X.setCell ⟨gl,256,none⟩ (.int .i64 (ya+1))).setCell ⟨gd,0,none⟩ (.int .i64 (za+1))).heap[D]?=some (.deferred (some [])):=(Below.heap_setCell _ _ _ D hD2).trans (ae HKx);refine⟨_,results_tmp2 rfl _ _ _,⟨gl,gd,rfl,?_,?_⟩,?_⟩
   · exact ownsRow_putObj (show ar _ _ _ _ from(ae HPl).setOther hgg.symm _) (.deferred none) hKy rfl
   ·
    have e1:cX (bh s.data.toList 0)=inc (bP ys) 0:=by
     unfold cX;rw[←ae Hdb,if_pos hu]
    rw[e1];refine ownsRow_putObj (show ar _ _ _ _ from ?_) (.deferred none) hKy rfl;unfold inc;rw[hza];exact(ae HPd).put (j:=0) (ae Hdl) (za+1)
   · exact(ai (ae HBx) d3 _).drew.trans (belowK_b (w:=w) (Nat.le_refl _) (World.drew _) D _ _ hDw hKy rfl rfl)
  ·
   have hm0:Hid (¬ bQ (bP ys) 30=0):=fun h=>hu ((ae HUs).1 h);have hmb:(bQ (bP ys) 30 == 0)=false:=by have:=ae hm0;simpa using this
   generalize bQ (bP ys) 30=M at *
   gi_wp2_with (refine⟨trivial,?_⟩;gi_at_call 163;refine(callsIn_wide.2 (ae HM)).mono ?_;rintro e x1 ⟨rfl,hx1⟩;rw[hx1];clear hx1)
   gi_region
   gi_wp2
   refine⟨by simp,.inl ⟨_,_,rfl,run_takeDeferred (ae HKx),?_⟩⟩;refine⟨_,results_tmp2 rfl _ _ _,⟨gl,gd,rfl,?_,?_⟩,?_⟩
   · exact ownsRow_putObj (ae HPl) (.deferred none) (ae HKx) rfl
   ·
    have e1:cX (bh s.data.toList 0)=bP ys:=by
     unfold cX;rw[←ae Hdb,if_neg hu]
    rw[e1];exact ownsRow_putObj (ae HPd) (.deferred none) (ae HKx) rfl
   · exact(ae HBx).drew.trans (belowK_b (w:=w) (Nat.le_refl _) (World.drew _) D _ _ hDw (ae HKx) rfl rfl)
 case stop=>
  rintro D c pre W _ _ h _;exact h.elim
end Go.Proofs.YtkpfkgoiaicgbaaGreatDoor
namespace Go.Proofs.YtkpfkgoiaicgbaaGreatDoor
open Go.RowKit Corb
theorem LP{l:List Int}(h:okC l):inC l=true:=by
 unfold inC;rw[List.all_eq_true];intro x hx;obtain⟨i,hi,rfl⟩:=List.mem_iff_getElem.1 hx;have:=h i hi;rw[show l.getD i 0=l[i] by simp[List.getD,hi]]at this;exact aD.2 this
theorem rj{l:List Int}{m:Nat}(hc:okC l)(hl:l.length<=300)(h1:1<=us l)(hU:us l<=p2 m)(hm:m<=14):iv l ((m:Int)+1)=dF ((m:Int)+1) l:=by
 unfold iv;rw[if_pos];unfold tI;simp only[Bool.and_eq_true,decide_eq_true_eq];refine⟨⟨⟨hl,aD.2 (by omega)⟩,LP hc⟩,aD.2 ?_⟩;rw[show((m:Int)+1).toNat=m+1 by omega,vk];omega
theorem Kq(T:List Tk)(hT:T.length<=300):iv (gi T) 15=dF 15 (gi T):=by
 have h1:=BE T;have h2:=BQ;exact rj (m:=14) (BC T hT) (by rw[fZ];omega) h1.1 (by omega) (by omega)
theorem FT(T:List Tk)(hT:T.length<=300):iv (cX T) 15=dF 15 (cX T):=by
 have h1:=vZ T;have h2:=BQ;exact rj (m:=14) (vY T hT) (by rw[fB];omega) h1.1 (by omega) (by omega)
theorem Eu(A:List Int)(h0:0<A.length)(h4:A.length<=400)(hA:∀x∈A,0<=x/\x<=15):iv (nY A) 7=bD A:=by
 have h1:=Bc A h0 hA;have h2:=ML;exact rj (m:=6) (Bb A h4) (by rw[fV];omega) h1.1 (by omega) (by omega)
theorem ar.cut{w:World}{base n m cap:Nat}{a:Option Addr}{l:List Int}(hn:l.length=n)(h:ar w base (.slice a n cap) l)(hm:m<=n)(h0:0<n):ar w base (.slice a m cap) (l.take m):=by
 subst hn;rcases h.2 with⟨_,e⟩|⟨g,cap',cur,e,hb,hg,h1,h2,h3,h4⟩
 · omega
 ·
  simp only[Value.slice.injEq]at e;obtain⟨rfl,_,rfl⟩:=e;refine⟨by simp,.inr ⟨g,cap,cur,by rw[List.length_take];congr 1;omega,hb,hg,by rw[List.length_take];omega,h2,h3,?_⟩⟩;rw[List.length_take,List.map_take,←h4,List.take_take]
  congr 1
  omega
theorem nz{w:World}{base base' size n:Nat}{e:TypeId}{v:Value}{xs:List Value}(h:w.ownsRow base e size v n xs)(hb:base'<=base):w.ownsRow base' e size v n xs:=
 ⟨h.1,h.2.imp id fun⟨g,c,u,e,hbg,r⟩=>⟨g,c,u,e,Nat.le_trans hb hbg,r⟩⟩
theorem ar.cap{w:World}{base n cap g:Nat}{l:List Int}(h:ar w base (.slice (some ⟨g,0,none⟩) n cap) l):n<=cap/\cap<=maxLen:=by
 rcases h.2 with⟨e,_⟩|⟨g',cap',cur,e,hb,hg,h1,h2,h3,h4⟩
 · cases e
 · simp only[Value.slice.injEq]at e;obtain⟨_,rfl,rfl⟩:=e;exact⟨h1,h2⟩
def gt(L D:List Int):List (Int×Int):=[((L.length:Int)-257,5),((D.length:Int)-1,5),(15,4)]
def jr(l:List Int)(k:Nat):List (Int×Int):=(bw.take k).map fun i=>(l.getD i 0,(3:Int))
theorem D5(l:List Int)(k:Nat)(h:k<19):jr l (k+1)=jr l k++[(l.getD (bw.getD k 0) 0,3)]:=by
 unfold jr;have hk:k<bw.length:=h;rw[List.take_succ_eq_append_getElem hk,List.map_append];simp[List.getD,hk]
theorem Ht(l:List Int)(k:Nat)(h:k<=19):(jr l k).length=k:=by unfold jr;have:bw.length=19:=rfl;simp;omega
theorem AH(L D:List Int)(h:ap (bD (L++D))=true)(h19:(bD (L++D)).length=19)(hA:∀x∈L++D,0<=x/\x<=15):gt L D++jr (bD (L++D)) 19++gr (bD (L++D)) (L++D)=dM L D:=by
 unfold dM gt jr gr;rw[List.append_assoc]
 congr 2
 apply List.map_congr_left;intro x hx;have:=hA x hx;exact lA h (by rw[h19];omega)
theorem Cp{w:World}{b base:Nat}{l:List Int}{C:Array Value}(h:ql w b base l C):∃a cap,w.cell? ⟨b,0,none⟩=some (.slice a l.length cap)/\bC w a l:=by
 obtain⟨⟨a,cap,ac,cc,q,sc,e,h1,h2,h3⟩,hr,_⟩:=h;refine⟨a,cap,?_,h1.1⟩;have:=hr 0 (.slice a l.length cap) (by rw[e];rfl);simpa using this
def nX:Array Value:=#[Value.slice none 0 0,Value.slice none 0 0,Value.int .i64 0,Value.int .i64 0,Value.int .i64 0,Value.int .i64 0,Value.int .i64 0,Value.int .i64 0,Value.int .i64 0,Value.int .i64 0,Value.int .i64 0,Value.int .i64 0,Value.int .i64 0,Value.int .i64 0,Value.int .i64 0,Value.int .i64 0,Value.int .i64 0,Value.int .i64 0,Value.slice none 0 0]
theorem zm(gL gD nL cL nD cD base:Nat)(L D:List Int)(w:World)(hnL:L.length=nL)(hnD:D.length=nD)(hL:ar w base (.slice (some ⟨gL,0,none⟩) nL cL) L)(hD:ar w base (.slice (some ⟨gD,0,none⟩) nD cD) D)(hl:nL+nD<=1000) :
  Calls Tryz.prog 158 #[.slice (some ⟨w.heap.size,0,none⟩) 2 2] (w.alloc (.cells #[.slice (some ⟨gL,0,none⟩) nL cL,.slice (some ⟨gD,0,none⟩) nD cD] 154)) fun e w'=>∃v,e = .returned v/\ar w' w.heap.size v (L++D)/\Below w.heap.size w w':=by
 have hb5:Below w.heap.size w (w.alloc (.cells #[.slice (some ⟨gL,0,none⟩) nL cL,.slice (some ⟨gD,0,none⟩) nD cD] 154)):=(Below.refl _ _).alloc (Nat.le_refl _) _;have hR:gx (w.alloc (.cells #[.slice (some ⟨gL,0,none⟩) nL cL,.slice (some ⟨gD,0,none⟩) nD cD] 154)) w.heap.size base [(.slice (some ⟨gL,0,none⟩) nL cL,L.map (Value.int .i64)),(.slice (some ⟨gD,0,none⟩) nD cD,D.map (Value.int .i64))]:=by
  intro i hi
  match i,hi with
  | 0,_=>exact⟨by simp,_,hL.later hb5 (Nat.le_refl _),ints_oneCell .i64 _⟩
  | 1,_=>exact⟨by simp,_,hD.later hb5 (Nat.le_refl _),ints_oneCell .i64 _⟩
 have hlen:aG [(Value.slice (some ⟨gL,0,none⟩) nL cL,L.map (Value.int .i64)),(.slice (some ⟨gD,0,none⟩) nD cD,D.map (Value.int .i64))]=(L++D).length:=by simp[aG,bF]
 refine(nZ w.heap.size base 2 2 _ _ rfl (by omega) (by omega) hR (by rw[hlen,List.length_append];omega)).mono ?_;rintro e x5 ⟨v,rfl,ho5,hb⟩;refine⟨v,rfl,?_,aj hb5 hb⟩;have hall:cx [(Value.slice (some ⟨gL,0,none⟩) nL cL,L.map (Value.int .i64)),(.slice (some ⟨gD,0,none⟩) nD cD,D.map (Value.int .i64))]=(L++D).map (Value.int .i64):=by
  simp only[cx,List.flatMap_cons,List.flatMap_nil,List.map_append,List.append_nil]
 rw[hlen,hall]at ho5;exact ar.mono (base:=(w.alloc (.cells #[.slice (some ⟨gL,0,none⟩) nL cL,.slice (some ⟨gD,0,none⟩) nD cD] 154)).heap.size) ho5 (by simp)
set_option maxRecDepth 100000 in
theorem vd(gL gD nL cL nD cD base:Nat)(L D:List Int)(w:World)(hnL:L.length=nL)(hnD:D.length=nD)(hL:ar w base (.slice (some ⟨gL,0,none⟩) nL cL) L)(hD:ar w base (.slice (some ⟨gD,0,none⟩) nD cD) D)
  (l0:257<=nL) (l1:nL<=286) (d0:1<=nD) (d1:nD<=30) (kL:ap L=true) (kD:ap D=true) (hO:dk w) :
  Calls Tryz.prog 133 #[.slice (some ⟨gL,0,none⟩) nL cL,.slice (some ⟨gD,0,none⟩) nD cD] w fun e w'=>∃v,e = .returned v/\Pcs w' w.heap.size v (dM L D)/\Below w.heap.size w w':=by
 obtain⟨i0,hi,hz0,hz1,hz2⟩:=info_parts Tryz.infoInt;obtain⟨j0,hj,hy0,hy1,hy2⟩:=info_parts Tryz.infoPiece;have HA:Hid (∀x∈L++D,0<=x/\x<=15):=by
  intro x hx;rcases List.mem_append.1 hx with h|h
  · exact lq kL x h
  · exact lq kD x h
 obtain⟨nA,hnA⟩:∃nA,(L++D).length=nA:=⟨_,rfl⟩;have hnA':nA=nL+nD:=by rw[←hnA,List.length_append,hnL,hnD]
 have HF:=af (uZ (L++D) (by omega) (by omega) (ae HA));have HS:=af (Eu (L++D) (by omega) (by omega) (ae HA));have HT:=af (AH L D (ae HF).2.1 (ae HF).1 (ae HA));have HCat:=af (zm gL gD nL cL nD cD base L D w hnL hnD hL hD (by omega));have HB:Hid (gt L D=[((nL:Int)-257,5),((nD:Int)-1,5),(15,4)]):=by show gt L D=_;unfold gt;rw[hnL,hnD]
 have nLI:(nL:Int)<=286:=by omega
 have nDI:(nD:Int)<=30:=by omega
 have nLI0:(257:Int)<=(nL:Int):=by omega
 have nDI0:(1:Int)<=(nD:Int):=by omega
 have nAI:(nA:Int)<=316:=by omega
 have HNA:Hid (1<=nA/\nA<=316):=by show _/\_;omega
 have HO:=af hO;clear hL hD kL kD l0 l1 d0 d1 hnL hnD hnA' hO;generalize hAe:L++D=A at *
 have HAn:=af hnA;clear hnA hAe;go_enter Tryz.func133,Tryz.ntmps133;go_wp2_with fail;refine(ae HCat).mono ?_;rintro e x1 ⟨v1,rfl,o1,b1⟩;obtain⟨a1,c1,rfl⟩:=o1.formN (ae HAn);obtain⟨g1,rfl⟩:=o1.somes (by have:=ae HAn;have:=ae HNA;omega);have O1:=af o1;have B1:=af b1;clear o1 b1 HCat
 go_wp2_with (at_make;refine wpList_make_full _ rfl _ _ 154 rfl w.heap.size 3 i0 (.int .i64 0) 1 Tryz.underlying154 hi hz0 hz1 .i64 .i64 _ _ 19 rfl rfl rfl rfl (by rw[hz2];omega) (by unfold maxLen;omega) (ae B1).size ?_;intro x2 hown hgrow);have hg1:=(ae O1).below.2;obtain⟨gC,hgC⟩:∃gC,x1.heap.size=gC:=⟨_,rfl⟩;have b2:=kg hgrow;have o2:=gE hown;rw[hgC]at hown o2 hg1;have hb2:=aj (ae B1) b2;have o1:=(ae O1).later b2 (Nat.le_refl _);have hne:gC≠g1:=by omega
 rw[hgC];clear hown hgrow b2 O1 B1 hgC hg1
 go_loopw [8,20] (fun _ i wr=>∃k:Nat,k<=nA/\i = .int .i64 k/\ar wr w.heap.size (.slice (some ⟨g1,0,none⟩) nA c1) A/\ar wr w.heap.size (.slice (some ⟨gC,0,none⟩) 19 19) (ip (List.replicate 19 0) ((A.take k).map Int.toNat))/\Below w.heap.size w wr) (fun _ i _=>nA-(intOf i).toNat)
 case atStart=>exact⟨0,Nat.zero_le _,rfl,o1,o2,hb2⟩
 case round=>
  obtain⟨k,hk,rfl,hA1,hC1,hbel⟩:=hrel;clear o1 o2 hb2;by_cases hlt:k<nA
  ·
   obtain⟨c0,_,_,_⟩:=hA1.at (ae HAn) hlt;have hin:A.getD k 0∈A:=by have:=ae HAn;simp[List.getD,show k<A.length by omega]
   have hyb:=ae HA _ hin;have hst:Hid ((A.take (k+1)).map Int.toNat=(A.take k).map Int.toNat++[(A.getD k 0).toNat]):=by
    show _=_;rw[cz A k (by rw[ae HAn];exact hlt),List.map_append];rfl
   have hln:(ip (List.replicate 19 0) ((A.take k).map Int.toNat)).length=19:=by rw[gZ,List.length_replicate]
   obtain⟨y,hy⟩:=Int.eq_ofNat_of_zero_le hyb.1;rw[hy]at hst c0 hyb;rw[Int.toNat_natCast]at hst;have hb:=uV 19 ((A.take k).map Int.toNat) y;have hlk:((A.take k).map Int.toNat).length<=nA:=by simp;omega
   obtain⟨d0,d1,d2,d3⟩:=hC1.at (j:=y) hln (by omega);have hP:=hC1.put (j:=y) hln ((ip (List.replicate 19 0) ((A.take k).map Int.toNat)).getD y 0+1);have hP2:Hid (∀u,ar (wr.setCell ⟨gC,y,none⟩ u) w.heap.size (.slice (some ⟨g1,0,none⟩) nA c1) A/\Below w.heap.size w (wr.setCell ⟨gC,y,none⟩ u)):=fun u=>⟨hA1.setOther hne u,ai hbel d2 u⟩;have HP:Hid (ar (wr.setCell ⟨gC,y,none⟩ (.int .i64 ((ip (List.replicate 19 0) ((A.take k).map Int.toNat)).getD y 0+1))) w.heap.size (.slice (some ⟨gC,0,none⟩) 19 19) (ip (List.replicate 19 0) ((A.take (k+1)).map Int.toNat))):=by
    show ar _ _ _ _;rw[ae hst,lj];exact hP
   generalize (ip (List.replicate 19 0) ((A.take k).map Int.toNat)).getD y 0=z at *
   have hyI:(y:Int)<19:=by omega
   have hzI:z<=400:=by have:=ae HNA;omega
   have hz0':0<=z:=hb.1;have Hk:=af hk;clear hP hC1 hA1 hbel hlk hb hyb hy hin hk hln d2 d3;go_wp2;go_roundw
   case rel=>exact⟨k+1,by have:=ae Hk;omega,by go_num,(ae hP2 _).1,ae HP,(ae hP2 _).2⟩
   case measure=>simp[intOf];omega
  ·
   have hkn:A.take k=A:=List.take_of_length_le (by rw[ae HAn];omega);rw[hkn]at hC1;have hC2:ar wr w.heap.size (.slice (some ⟨gC,0,none⟩) 19 19) (nY A):=hC1;have HL:=af (gW (some ⟨gC,0,none⟩) 19 19 (nY A) 7 wr (fV A) (hC2.rowN (fV A)) (by omega));rw[ae HS]at HL;have O1:=af hA1;have B1:=af hbel;clear hkn hC1 hC2 hA1 hbel;go_wp2_with fail;refine(ae HL).mono ?_;rintro e x3 ⟨⟨v3,rfl,o3⟩,b3⟩;obtain⟨a3,c3,rfl⟩:=o3.formN (ae HF).1;have O1':=af ((ae O1).later b3 (Nat.le_refl _));have B3:=af (aj (ae B1) b3);have HBk:=af (wZ a3 c3 19 w.heap.size (bD A) x3 (ae HF).1 ((cw (ae HF).1 (o3.own (ae HF).1)).mono (ae B1).size) (ae B3).size (by omega));clear o3 b3 HL O1 B1;go_wp2_with fail;refine(ae HBk).mono ?_;rintro e x4 ⟨⟨C,rfl,k4⟩,b4⟩;have O1:=af ((ae O1').later b4 (Nat.le_refl _));have B4:=af (aj (ae B3) b4);have K4:=af k4;have HSz:=af k4.size;have HOne:=af k4.one;clear k4 b4 HBk O1' B3;have b5:Below x4.heap.size x4 ((x4.alloc (.cells nX 265)).setCells x4.heap.size 0 C.toList):=below_setCells (Nat.le_refl _) _ _ _ ((Below.refl _ _).alloc (Nat.le_refl _) _);have hth:(x4.alloc (.cells nX 265)).there x4.heap.size 0 19:=fK x4 nX _ 19 rfl;have hr5:=World.rangeAt_setCells_same (x4.alloc (.cells nX 265)) x4.heap.size 0 C.toList (by rw[Array.length_toList,ae HSz];exact hth);have hbk:ql ((x4.alloc (.cells nX 265)).setCells x4.heap.size 0 C.toList) x4.heap.size w.heap.size (bD A) C:=⟨(ae K4).later b5,hr5,by rw[size_setCells];simp⟩;have HTh:=af hth;have HB5:=af b5;have HBB:=af hbk;unfold nX at HTh HB5 HBB;clear b5 hth hr5 hbk K4;go_wp2_with (first
    | (refine wpList_store_mid rfl 265 (.tmp 9) (.tmp 33) rfl x4.heap.size 0 C rfl rfl (by rw[ae HSz];exact ae HTh) (by rw[ae HSz];exact Tryz.infoLenK) (ae HOne) ?_;generalize hx5:World.setCells _ x4.heap.size 0 C.toList=x5 at *;clear hx5 HTh)
    | (refine aP rfl 268 (.global 1) rfl 1 0 rfl D4 _ (dk.later (dk.later (dk.later (ae HO) (ae B4)) (ae HB5)) ((Below.refl _ _).alloc (Nat.le_refl _) _)).1 Tryz.underlying268 rfl Tryz.infoOrd ?_))
   have hp0:Pcs (x5.alloc (.cells #[.int .i64 ((nL:Int)-256-1),.int .i64 5,.int .i64 ((nD:Int)-1),.int .i64 5,.int .i64 15,.int .i64 4] 180)) x5.heap.size (.slice (some ⟨x5.heap.size,0,none⟩) 3 3) (gt L D++jr (bD A) 0):=by
    have e0:gt L D++jr (bD A) 0=[((nL:Int)-256-1,5),((nD:Int)-1,5),(15,4)]:=by rw[ae HB];simp only[jr,List.take_zero,List.map_nil,List.append_nil];congr 2;omega
    rw[e0];exact World.ownsRow_lit x5 #[.int .i64 ((nL:Int)-256-1),.int .i64 5,.int .i64 ((nD:Int)-1),.int .i64 5,.int .i64 15,.int .i64 4] 3 (Nat.le_refl _) (by unfold maxLen;omega) rfl
   have hA6:Below x5.heap.size x5 (x5.alloc (.cells #[.int .i64 ((nL:Int)-256-1),.int .i64 5,.int .i64 ((nD:Int)-1),.int .i64 5,.int .i64 15,.int .i64 4] 180)):=(Below.refl _ _).alloc (Nat.le_refl _) _;have O5:=af ((ae O1).later (ae HB5) (Nat.le_refl _));have B5:=af (aj (ae B4) (ae HB5));generalize x5.alloc (.cells #[.int .i64 ((nL:Int)-256-1),.int .i64 5,.int .i64 ((nD:Int)-1),.int .i64 5,.int .i64 15,.int .i64 4] 180)=x6 at *
   generalize x4.heap.size=b9 at *
   clear HB5 B4 O1
   go_loopw [10,12,46] (fun o _ i wr=>∃j:Nat,j<=19/\i = .int .i64 j/\Pcs wr x5.heap.size o (gt L D++jr (bD A) j)/\Below x5.heap.size x5 wr) (fun _ _ i _=>19-(intOf i).toNat)
   case atStart=>exact⟨0,by omega,rfl,hp0,hA6⟩
   case round=>
    obtain⟨j,hj19,rfl,hp,hbel⟩:=hrel;clear hp0 hA6 x6;have hbk:=(ae HBB).later hbel;have hlk:Hid ((gt L D++jr (bD A) j).length=3+j):=by show _=_;rw[List.length_append,Ht _ _ hj19];rfl
    have hbs:=hbel.size;by_cases hlt:j<19
    ·
     have hix:=D6 j hlt;have hol:=Hw j hlt;have hst:Hid (gt L D++jr (bD A) (j+1)=(gt L D++jr (bD A) j)++[((bD A).getD (bw.getD j 0) 0,3)]):=by show _=_;rw[D5 (bD A) j hlt,List.append_assoc]
     obtain⟨a7,cap7,hcb,hI7⟩:=Cp hbk;rw[(ae HF).1]at hcb;obtain⟨g7,o7,rfl,hg7,hc7⟩:=hI7 (by rw[(ae HF).1];omega);have d7:=hc7 (bw.getD j 0) (by rw[(ae HF).1];exact hol);have hyb:=(ae HF).2.2 (bw.getD j 0) hol;generalize (bD A).getD (bw.getD j 0) 0=y at *
     generalize bw.getD j 0=q at *
     have hqI:(q:Int)<19:=by omega
     have hjI:(j:Int)<19:=by omega
     have hlen1:Hid ((gt L D++jr (bD A) j).length+1<=maxLen/\((gt L D++jr (bD A) j).length+1)*16<=140737488355328):=by
      show _/\_;rw[ae hlk];unfold maxLen;omega
     have Hj:=af hlt;clear hbk hc7 hol hI7 hyb hj19 hlt;go_wp2_with (at_builtin;refine wpList_append_own _ rfl _ _ 177 rfl x5.heap.size 180 j0 (.agg #[.int .i64 0,.int .i64 0]) 2 16 Tryz.underlying177 hj hy0 hy1 hy2 rfl (by decide) _ _ _ rfl (World.ownsRow.alloc hp _) ⟨wr.heap.size,0,none⟩ 1 1 [.int .i64 y,.int .i64 3] rfl rfl (qj wr _ _ _) (qi _ _) (ae hlen1).1 (ae hlen1).2 (aB hbs _) ?_;intro v' x2 hown hgrow hnil;clear hnil);have hb2:=aK (v:=u10) hgrow hp (Nat.le_refl _) hbs hbel;have hq2:=kC hown;rw[←ae hst]at hq2;exact⟨⟨j+1,by have:=ae Hj;omega,by go_num,hq2,hb2⟩,by have:=ae Hj;simp[intOf];omega⟩
    ·
     obtain rfl:j=19:=by omega
     have HEach:=af (CQ (some ⟨g1,0,none⟩) c1 nA b9 w.heap.size A (bD A) C wr (ae HAn) (((ae O5).later hbel (Nat.le_refl _)).rowN (ae HAn)) (by have:=ae HNA;omega) hbk (by rw[(ae HF).1];omega) (fun i hi=>by rw[(ae HF).1];have:=ae HA (A.getD i 0) (by simp[List.getD,hi]);omega));obtain⟨ga,ca,rfl⟩:∃ga ca,u10 = .slice (some ⟨ga,0,none⟩) 22 ca:=by
      obtain⟨g,c,e⟩:=rJ hp (by rw[ae hlk];omega);rw[ae hlk]at e;exact⟨g,c,e⟩
     have HP:=af hp;have HBel:=af hbel;clear hp hbel hbk hlt hj19;go_wp2_with fail;refine(ae HEach).mono ?_;rintro e x7 ⟨v7,rfl,hp7,b7⟩;have hl7:Hid ((gr (bD A) A).length=nA):=by show _=_;unfold gr;rw[List.length_map];exact ae HAn
     obtain⟨ga7,ca7,rfl⟩:∃ga ca,v7 = .slice (some ⟨ga,0,none⟩) nA ca:=by
      obtain⟨g,c,e⟩:=rJ hp7 (by rw[ae hl7];have:=ae HNA;omega);rw[ae hl7]at e;exact⟨g,c,e⟩
     have HN7:=af (hp7.newsN (ae hl7));have HP8:=af (eG (ae HP) b7);have hbs7:x5.heap.size<=x7.heap.size:=Nat.le_trans (ae HBel).size b7.size;have HB7:=af (aj (ae HBel) b7);have bd:Hid ((gt L D++jr (bD A) 19).length+nA<=maxLen/\((gt L D++jr (bD A) 19).length+nA)*16<=140737488355328):=by
      show _/\_;rw[ae hlk];have:=ae HNA;unfold maxLen;omega
     clear hp7 b7 HEach;go_wp2_with (at_builtin;refine wpList_append_own _ rfl _ _ 177 rfl x5.heap.size 180 j0 (.agg #[.int .i64 0,.int .i64 0]) 2 16 Tryz.underlying177 hj hy0 hy1 hy2 rfl (by decide) _ _ _ rfl (ae HP8) ⟨ga7,0,none⟩ nA ca7 (aL (gr (bD A) A)) rfl (by rw[jv,ae hl7]) (ae HN7) (fH _) (ae bd).1 (ae bd).2 hbs7 ?_;intro v' x8 hown hgrow hnil;clear hnil);go_ret;have hb8:Below x5.heap.size x5 x8:=(ae HB7).grown hgrow hbs7 (fun j hj=>(World.ownsRow.lt (ae HP8) j hj).1);refine⟨_,rfl,?_,aj (ae B5) hb8⟩;rw[←ae HT];have h9:Pcs x8 x5.heap.size v' ((gt L D++jr (bD A) 19)++gr (bD A) A):=by
      show World.ownsRow _ _ _ _ _ _ _;rw[du,List.length_append,ae hl7];exact hown
     exact nz h9 (ae B5).size
theorem D9(T:List Tk)(hT:T.length<=300)(hok:∀t∈T,okT t=true):[(1,1),(2,2)]++(dM (cn T) (dx T)++(T.flatMap (pcT (cn T) (dx T))++[pcS (cn T) 256]))=jO T:=by
 unfold jO;rw[oU (js T hT) (lw T hT) _ (fun t ht=>rG T hT hok t ht),lA (js T hT) (by have:=(kx T hT).1;omega)]
theorem uA(v1 v2 v3:Value)(A B C:List (Int×Int))(base:Nat)(w:World)(h1:Pcs w base v1 A)(h2:Pcs w base v2 B)(h3:Pcs w base v3 C)(hl:A.length+(B.length+C.length)<=4000) :
  Calls Tryz.prog 132 #[.slice (some ⟨w.heap.size,0,none⟩) 3 3] (w.alloc (.cells #[v1,v2,v3] 177)) fun e w'=>∃v,e = .returned v/\Pcs w' w.heap.size v (A++(B++C))/\Below w.heap.size w w':=by
 have hb5:Below w.heap.size w (w.alloc (.cells #[v1,v2,v3] 177)):=(Below.refl _ _).alloc (Nat.le_refl _) _;have hR:fx (w.alloc (.cells #[v1,v2,v3] 177)) w.heap.size base [(v1,aL A),(v2,aL B),(v3,aL C)]:=by
  intro i hi
  match i,hi with
  | 0,_=>exact⟨by simp,_,h1.later hb5 (Nat.le_refl _),fH _⟩
  | 1,_=>exact⟨by simp,_,h2.later hb5 (Nat.le_refl _),fH _⟩
  | 2,_=>exact⟨by simp,_,h3.later hb5 (Nat.le_refl _),fH _⟩
 have hlen:aE [(v1,aL A),(v2,aL B),(v3,aL C)]=(A++(B++C)).length:=by
  simp only[aE,bo,List.map_cons,List.map_nil,List.sum_cons,List.sum_nil,jv,List.length_append];omega
 refine(vT w.heap.size base 3 3 _ _ rfl (by omega) (by omega) hR (by rw[hlen,List.length_append,List.length_append];omega)).mono ?_;rintro e x5 ⟨v,rfl,ho5,hb⟩;refine⟨v,rfl,?_,aj hb5 hb⟩;have hall:dn [(v1,aL A),(v2,aL B),(v3,aL C)]=aL (A++(B++C)):=by
  simp only[dn,List.flatMap_cons,List.flatMap_nil,du,List.append_nil]
 rw[hlen,hall]at ho5;exact nz (base:=(w.alloc (.cells #[v1,v2,v3] 177)).heap.size) ho5 (by simp)
set_option maxRecDepth 100000 in
theorem wO(s:ByteArray)(w:World)(hs:s.size<=300)(hO:dk w) :
  Calls Tryz.prog 80 #[.string s] w fun e w'=>e = .returned (.string ⟨(oD s).toArray⟩)/\Below w.heap.size w w':=by
 have hI:¬ (300:Int)<(s.size:Int):=by omega
 have hmix:Tryz.prog.follows .mixedOrders=true:=by kernel_rfl
 have HS:=af hs;have HO:=af hO;have HFC:=af (pM s w hs);obtain⟨T,hT⟩:∃T,bh s.data.toList 0=T:=⟨_,rfl⟩;have HTl:Hid (T.length<=300):=by show _<=_;rw[←hT];exact kN s hs
 have HTo:Hid (∀t∈T,okT t=true):=by rw[←hT];exact fR s
 have HOT:Hid (oD s=bS (jO T)):=by show oD s=_;unfold oD;rw[hT]
 have HT:=af hT;rw[hT]at HFC;clear hs hO hT;go_enter Tryz.func80,Tryz.ntmps80;go_wp2_with fail;refine(ae HFC).mono ?_;rintro e x1 ⟨⟨gl,gd,rfl,o1,o2⟩,b1⟩;have HL1:=af (gW (some ⟨gl,0,none⟩) 286 286 (gi T) 15 x1 (fZ T) (o1.rowN (fZ T)) (by omega));rw[Kq T (ae HTl)]at HL1;have O2:=af o2;have B1:=af b1;clear o1 o2 b1 HFC;go_wp2_with fail;refine(ae HL1).mono ?_;rintro e x2 ⟨⟨v2,rfl,o3⟩,b2⟩;have hn2:=(Ko T (ae HTl)).1;obtain⟨a2,c2,rfl⟩:=o3.formN hn2;obtain⟨g2,rfl⟩:=o3.somes (by omega);have HC2:=af (pe g2 0 c2 286 257 (dF 15 (gi T)) x2 hn2 (fun i hi=>by rw[Nat.zero_add];exact(o3.at hn2 hi).1) o3.cap.1 (by omega) (by omega));have e2:eJ (dF 15 (gi T)) 257 286=(cn T).length:=by unfold cn;rw[iV,hn2]
 rw[e2]at HC2;have O3:Hid (ar x2 w.heap.size (.slice (some ⟨g2,0,none⟩) (cn T).length c2) (cn T)):=by
  have h9:=o3.cut (m:=(cn T).length) hn2 (by have:=kx T (ae HTl);omega) (by omega);have e3:(dF 15 (gi T)).take (cn T).length=cn T:=by rw[←e2];unfold cn mS;rw[hn2]
  rw[e3]at h9;exact h9.mono (ae B1).size
 have O2':=af ((ae O2).later b2 (Nat.le_refl _));have B2:=af (aj (ae B1) b2);have HLl:=af (kx T (ae HTl));obtain⟨nL,hnL⟩:∃n,(cn T).length=n:=⟨_,rfl⟩;rw[hnL]at HC2 O3 HLl;have HnL:=af hnL;clear hnL e2 hn2 o3 b2 HL1 O2 B1;have HL2:=af (gW (some ⟨gd,0,none⟩) 30 30 (cX T) 15 x2 (fB T) ((ae O2').rowN (fB T)) (by omega));rw[FT T (ae HTl)]at HL2;clear O2';go_wp2_with fail;refine(ae HC2).mono ?_;rintro e x3 ⟨rfl,hx3⟩;rw[hx3];clear hx3 x3 HC2;go_wp2_with fail;refine(ae HL2).mono ?_;rintro e x3 ⟨⟨v3,rfl,o4⟩,b3⟩;have hn3:=(Bg T (ae HTl)).1;obtain⟨a3,c3,rfl⟩:=o4.formN hn3;obtain⟨g3,rfl⟩:=o4.somes (by omega);have HC3:=af (pe g3 0 c3 30 1 (dF 15 (cX T)) x3 hn3 (fun i hi=>by rw[Nat.zero_add];exact(o4.at hn3 hi).1) o4.cap.1 (by omega) (by omega));have e2:eJ (dF 15 (cX T)) 1 30=(dx T).length:=by unfold dx;rw[iV,hn3]
 rw[e2]at HC3;have O4:Hid (ar x3 w.heap.size (.slice (some ⟨g3,0,none⟩) (dx T).length c3) (dx T)):=by
  have h9:=o4.cut (m:=(dx T).length) hn3 (by have:=ny T (ae HTl);omega) (by omega);have e3:(dF 15 (cX T)).take (dx T).length=dx T:=by rw[←e2];unfold dx mS;rw[hn3]
  rw[e3]at h9;exact h9.mono (ae B2).size
 have O3':=af ((ae O3).later b3 (Nat.le_refl _));have B3:=af (aj (ae B2) b3);have HDl:=af (ny T (ae HTl));obtain⟨nD,hnD⟩:∃n,(dx T).length=n:=⟨_,rfl⟩;rw[hnD]at HC3 O4 HDl;have HnD:=af hnD;clear hnD e2 hn3 o4 b3 HL2 O3 B2;go_wp2_with fail;refine(ae HC3).mono ?_;rintro e x4 ⟨rfl,hx4⟩;rw[hx4];clear hx4 x4 HC3;have HBL:=af (pi (some ⟨g2,0,none⟩) c2 nL w.heap.size (cn T) x3 (ae HnL) (cw (ae HnL) ((ae O3').own (ae HnL))) (ae B3).size (by have:=ae HLl;omega));go_wp2_with fail;refine(ae HBL).mono ?_;rintro e x4 ⟨⟨C1,rfl,k1⟩,b4⟩;have O3:=af ((ae O3').later b4 (Nat.le_refl _));have O4':=af ((ae O4).later b4 (Nat.le_refl _));have B4:=af (aj (ae B3) b4);have K1:=af k1;clear k1 b4 HBL O3' O4 B3;have HBD:=af (mV (some ⟨g3,0,none⟩) c3 nD w.heap.size (dx T) x4 (ae HnD) (cw (ae HnD) ((ae O4').own (ae HnD))) (ae B4).size (by have:=ae HDl;omega));go_wp2_with fail;refine(ae HBD).mono ?_;rintro e x5 ⟨⟨C2,rfl,k2⟩,b5⟩;have O3':=af ((ae O3).later b5 (Nat.le_refl _));have O4:=af ((ae O4').later b5 (Nat.le_refl _));have B5:=af (aj (ae B4) b5);have K1':=af ((ae K1).later b5);have K2:=af k2;have HBu:=af (jX (ae K1') (ae K2));have hsz1:=(ae K1').size;have hsz2:=(ae K2).size;have HSz:Hid ((C1++C2).size=38):=by show _=_;rw[Array.size_append,hsz1,hsz2]
 have H1C:Hid ((C1++C2).all (·.oneCell')=true):=by show _=true;rw[Array.all_append,(ae K1').one,(ae K2).one];rfl
 have HTh:Hid ((x5.alloc (.cells iI 191)).there x5.heap.size 0 38):=fK x5 iI _ 38 rfl;have hb6:Hid (Below x5.heap.size x5 ((x5.alloc (.cells iI 191)).setCells x5.heap.size 0 (C1++C2).toList)):=below_setCells (Nat.le_refl _) _ _ _ ((Below.refl _ _).alloc (Nat.le_refl _) _);have hr6:Hid (((x5.alloc (.cells iI 191)).setCells x5.heap.size 0 (C1++C2).toList).rangeAt x5.heap.size 0 (C1++C2).toList):=World.rangeAt_setCells_same (x5.alloc (.cells iI 191)) x5.heap.size 0 (C1++C2).toList (by rw[Array.length_toList,ae HSz];exact ae HTh);have hs6:Hid (x5.heap.size<((x5.alloc (.cells iI 191)).setCells x5.heap.size 0 (C1++C2).toList).heap.size):=by show _<_;rw[size_setCells];simp
 unfold iI at HTh hb6 hr6 hs6;clear hsz1 hsz2 k2 b5 K1 O3 O4' B4 HBD;go_wp2_with (first
  | (refine il rfl (.tmp 21) (.tmp 23) rfl C1 C2 rfl rfl (ae HBu) ?_)
  | (refine wpList_store_mid rfl 191 (.tmp 5) (.tmp 24) rfl x5.heap.size 0 (C1++C2) rfl rfl (by rw[ae HSz];exact ae HTh) (by rw[ae HSz];exact Tryz.infoBooks) (ae H1C) ?_;generalize hx6:World.setCells _ x5.heap.size 0 (C1++C2).toList=x6 at *;clear hx6 HTh))
 have hB6:=aj (ae B5) (ae hb6);have HSW:Hid (∀W,Below x6.heap.size x6 W->W.rangeAt x5.heap.size 0 (C1++C2).toList):=fun W h=>iz (ae hr6) h (ae hs6);have hD6:Below x6.heap.size x6 x6.drew:=(Below.refl _ x6).drew;have hi1:(Tryz.prog.info? 191).map (·.size)=some (C1++C2).size:=by rw[ae HSz];exact Tryz.infoBooks
 have B6:=af hB6;have O36:=af ((ae O3').later (ae hb6) (Nat.le_refl _));have O46:=af ((ae O4).later (ae hb6) (Nat.le_refl _));have HBk:Hid (cY x6 w.heap.size (cn T) (dx T) (C1++C2)):=⟨C1,C2,rfl,(ae K1').later (ae hb6),(ae K2).later (ae hb6)⟩;clear hB6 O3' O4 K1' K2 hb6 B5;refine wp_region_held_drew (S:=fun W=>W.rangeAt x5.heap.size 0 (C1++C2).toList) hmix (ae HSW _ hD6) (fun hS=>?_);refine ag 1 (.slice (some ⟨g2,0,none⟩) nL c2) rfl (by kernel_rfl) (fun _ _ _ h=>h) rfl (?_) hS ?_
 · intro W hSw;go_simp
 refine ag 2 (.slice (some ⟨g3,0,none⟩) nD c3) rfl (by kernel_rfl) (fun _ _ _ h=>h) rfl (?_) hS ?_
 · intro W hSw;go_simp
 refine wpAnyH_take (i:=4) (v:=.agg (C1++C2)) rfl (by kernel_rfl) (by kernel_rfl) (by kernel_rfl) (fun _ _ _ h=>h) (cA (by rfl) 191 (.tmp 5) rfl x5.heap.size 0 rfl (C1++C2) _ (fun _ h=>h) Tryz.underlying191 rfl hi1) hS ?_;refine ag 5 (.string s) rfl (by kernel_rfl) (fun _ _ _ h=>h) rfl (?_) hS ?_
 · intro W hSw;go_simp
 refine ah 0 (by kernel_rfl) rfl fun K hK=>?_;go_simp;go_at_call 124;refine(iK 2 _).mono ?_;rintro e x7 ⟨rfl,hx7⟩;have hB7:Below x6.heap.size x6 x7:=by rw[hx7];exact hD6.alloc (by simp) _
 have hP7:Pcs x7 x6.heap.size (.slice (some ⟨x6.heap.size,0,none⟩) 2 2) [(1,1),(2,2)]:=by
  rw[hx7];exact World.ownsRow_lit x6.drew #[.int .i64 1,.int .i64 1,.int .i64 2,.int .i64 2] 2 (Nat.le_refl _) (by unfold maxLen;omega) rfl
 have HLT:=af (vd g2 g3 nL c2 nD c3 w.heap.size (cn T) (dx T) x7 (ae HnL) (ae HnD) ((ae O36).later hB7 (Nat.le_refl _)) ((ae O46).later hB7 (Nat.le_refl _)) (ae HLl).1 (ae HLl).2 (ae HDl).1 (ae HDl).2 (js T (ae HTl)) (lw T (ae HTl)) ((dk.later (ae HO) (ae B6)).later hB7));refine Shut.out hK _ _ (ae HSW _ hB7) (fun hS2=>?_);clear hK K hx7;refine ah 3 (by kernel_rfl) rfl fun K hK=>?_;go_simp;go_at_call 133;refine(ae HLT).mono ?_;rintro e x8 ⟨v8,rfl,hP8,b8⟩;obtain⟨n8,hn8⟩:∃n,(dM (cn T) (dx T)).length=n:=⟨_,rfl⟩;obtain⟨a8,c8,rfl⟩:=hP8.formN hn8;have hB8:Below x6.heap.size x6 x8:=aj hB7 b8;have hP7':=hP7.later b8 (Nat.le_refl _);have hP8':Pcs x8 x6.heap.size (.slice a8 n8 c8) (dM (cn T) (dx T)):=nz hP8 hB7.size;have HPA:=af (rO s w.heap.size (cn T) (dx T) (C1++C2) x8 (ae HS) ((ae HBk).later hB8) (by have:=ae HLl;have:=ae HnL;omega) (by have:=ae HDl;have:=ae HnD;omega) (by have:=ae HLl;have:=ae HnL;omega) (by rw[ae HT];exact fun t ht=>rG T (ae HTl) (ae HTo) t ht));rw[ae HT]at HPA;refine Shut.out hK _ _ (ae HSW _ hB8) (fun hS3=>?_);clear hK K hP7 hP8 b8 HLT hB7 hS2;refine ah 6 (by kernel_rfl) rfl fun K hK=>?_;go_simp;go_at_call 126;refine(ae HPA).mono ?_;rintro e x9 ⟨v9,rfl,hP9,b9⟩;obtain⟨n9,hn9⟩:∃n,(T.flatMap (pcT (cn T) (dx T))++[pcS (cn T) 256]).length=n:=⟨_,rfl⟩;obtain⟨a9,c9,rfl⟩:=hP9.formN hn9;have hB9:Below x6.heap.size x6 x9:=aj hB8 b9;have p7:=hP7'.later b9 (Nat.le_refl _);have p8:=hP8'.later b9 (Nat.le_refl _);have p9:Pcs x9 x6.heap.size (.slice a9 n9 c9) (T.flatMap (pcT (cn T) (dx T))++[pcS (cn T) 256]):=nz hP9 hB8.size;refine Shut.out hK _ _ (ae HSW _ hB9) (fun hS4=>?_);clear hK K hP7' hP8' hP9 b9 HPA hB8 hS3;have hEq:=D9 T (ae HTl) (ae HTo);have hOk:=qb T (ae HTl) (ae HTo);have hLn:(jO T).length<=4000:=by
  have:=hOk;unfold lOk at this;simp only[Bool.and_eq_true,decide_eq_true_eq]at this;exact this.2
 have HC:=af (uA (.slice (some ⟨x6.heap.size,0,none⟩) 2 2) (.slice a8 n8 c8) (.slice a9 n9 c9) [(1,1),(2,2)] (dM (cn T) (dx T)) (T.flatMap (pcT (cn T) (dx T))++[pcS (cn T) 256]) x6.heap.size x9 p7 p8 p9 (by have h9:=hLn;rw[←hEq]at h9;simp only[List.length_append]at h9 ⊢;omega));rw[hEq]at HC;have hB10:Below x6.heap.size x6 (x9.alloc (.cells #[.slice (some ⟨x6.heap.size,0,none⟩) 2 2,.slice a8 n8 c8,.slice a9 n9 c9] 177)):=hB9.alloc hB9.size _;have HOk:=af (And.intro hOk hLn);clear p7 p8 p9 hEq hOk hLn hn8 hn9;refine ah 7 (by kernel_rfl) rfl fun K hK=>?_;go_simp;refine Shut.out hK _ _ (ae HSW _ hB10) (fun hS5=>?_);clear hK K;refine ah 8 (by kernel_rfl) rfl fun K hK=>?_;go_simp;go_at_call 132;refine(ae HC).mono ?_;rintro e x11 ⟨v11,rfl,hP11,b11⟩;have hB11:=aj hB9 b11;obtain⟨a11,c11,rfl⟩:=hP11.form;refine Shut.out hK _ _ (ae HSW _ hB11) (fun hS6=>?_);clear hK K;have HBP:=af (ea a11 c11 (jO T) x11 hP11.row (by have:=(ae HOk).2;omega));rw[dt (ae HOk).1]at HBP;refine ah 9 (by kernel_rfl) rfl fun K hK=>?_;go_simp;go_at_call 121;refine(ae HBP).mono ?_;rintro e x12 ⟨rfl,b12⟩;have hB12:=aj hB11 b12;refine Shut.out hK _ _ (ae HSW _ hB12) (fun hS7=>?_);clear hK K;refine ah 10 (by kernel_rfl) rfl fun K hK=>?_;go_simp;refine Shut.out hK _ _ (ae HSW _ hB12) (fun hS8=>?_);clear hK K;refine wpAnyH_done (by kernel_rfl) ?_ _;have HBf:=af (aj (ae B6) hB12);clear hB12 hB11 hB10 hB9 hS hS4 hS5 hS6 hS7 hS8 hP11;generalize hR:bS (jO T)=R at *
 clear hR;go_wp2;go_ret;exact⟨by rw[ae HOT];rfl,ae HBf⟩
def kz(s:ByteArray):List UInt8:=if s.size<=300 then oD s else []
theorem qP(s:ByteArray)(w:World)(hs:s.size<=1048576)(hO:dk w) :
  Calls Tryz.prog 80 #[.string s] w fun e w'=>e = .returned (.string ⟨(kz s).toArray⟩)/\Below w.heap.size w w':=by
 by_cases h:s.size<=300
 · have HF:Hid (kz s=oD s):=if_pos h;rw[ae HF];exact wO s w h hO
 ·
  have hI:(300:Int)<(s.size:Int):=by omega
  have HF:Hid (kz s=[]):=if_neg h;clear h hO;go_enter Tryz.func80,Tryz.ntmps80;go_wp2;go_ret;exact⟨by rw[ae HF];rfl,Below.refl _ _⟩
end Go.Proofs.YtkpfkgoiaicgbaaGreatDoor
