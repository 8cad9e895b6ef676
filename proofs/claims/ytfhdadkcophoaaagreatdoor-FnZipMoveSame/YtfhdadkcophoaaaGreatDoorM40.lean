/- Of what the proof is made: 7 texts, one behind the other. -/
import Derived.Test.YtfhdadkcophoaaaGreatDoorM37
import Derived.Test.YtfhdadkcophoaaaGreatDoorM28
import Derived.Test.YtfhdadkcophoaaaGreatDoorM29
import Derived.Test.YtfhdadkcophoaaaGreatDoorM33
set_option linter.unusedSimpArgs false
set_option linter.unusedVariables false
set_option maxHeartbeats 6400000
namespace Go.Proofs.YtfhdadkcophoaaaGreatDoor
open Go.RowKit Corb
set_option maxRecDepth 100000
def lP(how st crc pk lg:Nat)(nm:ByteArray)(pl:Nat):ByteArray:=(⟨#[80,75,1,2]⟩:ByteArray)++aZ (leS 2 20)++kR how st crc pk lg nm.size++(⟨#[0,0,0,0,0,0,0,0,0,0]⟩:ByteArray)++aZ (leS 4 pl)++nm
theorem jp(how st crc pk lg:Nat)(nm:ByteArray)(pl:Nat):(lP how st crc pk lg nm pl).size=46+nm.size:=by
 simp only[lP,a0z,fQ,cm,aC];have h1:(⟨#[80,75,1,2]⟩:ByteArray).size=4:=rfl;have h2:(⟨#[0,0,0,0,0,0,0,0,0,0]⟩:ByteArray).size=10:=rfl;omega
def ep(many long pl:Nat):ByteArray:=(⟨#[80,75,5,6]⟩:ByteArray)++aZ ([0,0,many,many].flatMap (leS 2))++aZ (leS 4 long)++aZ (leS 4 pl)++aZ ([0].flatMap (leS 2))
theorem nV(many long pl:Nat):(ep many long pl).size=22:=by
 simp only[ep,a0z,cm,aC,a0V,a2B,a0i,a02];have h1:(⟨#[80,75,5,6]⟩:ByteArray).size=4:=rfl;omega
def eN(e:En):Nat:=(stN e.y e.mo e.d e.h e.mi e.s).toNat
def loE(e:En):ByteArray:=cK e.n e.t (eN e)
def heE(e:En)(p:Nat):ByteArray:=lP (fi e.t) (eN e) (aR 0 e.t.data.toList) (bm e.t).size e.t.size e.n p
def Au(s:ByteArray×ByteArray)(e:En):ByteArray×ByteArray:=(s.1++loE e,s.2++heE e s.1.size)
def aG(l:List En):ByteArray×ByteArray:=l.foldl Au (⟨#[]⟩,⟨#[]⟩)
theorem yA:aG []=(⟨#[]⟩,⟨#[]⟩):=rfl
theorem gR(l:List En)(k:Nat)(h:k<l.length):aG (l.take (k+1))=Au (aG (l.take k)) (l.getD k default):=by
 rw[mw l default k h,aG,List.foldl_append];rfl
theorem wX{e:En}(k:fe e=true):30<=(loE e).size/\(loE e).size<=400:=by
 obtain⟨f1,f2,f3⟩:=ck (n:=e.n) (t:=e.t) k;have hfz:=jr e.t;have hb:(bm e.t).size<=300:=by unfold bm;split<;>omega
 have:(loE e).size=30+e.n.size+(bm e.t).size:=by simp only[loE,cK,a0z,qu]
 omega
theorem qt(e:En)(p:Nat):(heE e p).size=46+e.n.size:=jp _ _ _ _ _ _ _
theorem lH(l:List En)(h:∀i,i<l.length->fe (l.getD i default)=true):∀k,k<=l.length->(aG (l.take k)).1.size<=400*k/\(aG (l.take k)).2.size<=100*k
 | 0,_=>by rw[List.take_zero,yA];exact⟨a0h _,a0h _⟩
 | k+1,hk=>by
  have ih:=lH l h k (by omega);rw[gR l k (by omega)];have h1:=wX (h k (by omega));have h2:=(ck (n:=(l.getD k default).n) (t:=(l.getD k default).t) (h k (by omega))).1;have h3:=qt (l.getD k default) (aG (l.take k)).1.size;simp only[Au,a0z];omega
theorem da{l:List En}(h:aY l=true):(∀i,i<l.length->fe (l.getD i default)=true)/\l.length<=6:=by
 simp only[aY,a0j,a0o,a0Y]at h;exact⟨fun i hi=>((lv l i).mp (h.1 i (List.mem_range.mpr hi))).1,h.2⟩
def bz(l:List En):ByteArray:=if aY l then(aG l).1++(aG l).2++ep l.length (aG l).2.size (aG l).1.size else⟨#[]⟩
def sM(e:En):List Value:=[.int .i64 (fi e.t:Nat),.int .i64 (eN e:Nat),.int .i64 (aR 0 e.t.data.toList:Nat),.int .i64 ((bm e.t).size:Nat),.int .i64 (e.t.size:Nat),.string e.n,.string (bm e.t)]
def mQ(q:En×Nat):List Value:=[.int .i64 (fi q.1.t:Nat),.int .i64 (eN q.1:Nat),.int .i64 (aR 0 q.1.t.data.toList:Nat),.int .i64 ((bm q.1.t).size:Nat),.int .i64 (q.1.t.size:Nat),.string q.1.n,.int .i64 (q.2:Nat)]
theorem Cu(e:En):(sM e).length=7:=rfl
theorem Cs(e:En×Nat):(mQ e).length=7:=rfl
theorem Cv(e:En):∀u∈sM e,u.oneCell'=true:=by
 intro u hu;simp only[sM,a04,a2d,a1Y]at hu;rcases hu with rfl|rfl|rfl|rfl|rfl|rfl|rfl<;>rfl
theorem Ct(e:En×Nat):∀u∈mQ e,u.oneCell'=true:=by
 intro u hu;simp only[mQ,a04,a2d,a1Y]at hu;rcases hu with rfl|rfl|rfl|rfl|rfl|rfl|rfl<;>rfl
theorem gO(w:World)(cs:Array Value)(t:TypeId):∀(j:Nat) (u:Value),cs.toList[j]?=some u->(w.alloc (.cells cs t)).cell? ((⟨w.heap.size,0,none⟩:Addr).add j)=some u:=by
 intro j u h;have:=(az w cs t).cell j u h;have e:((⟨w.heap.size,0,none⟩:Addr).add j)=⟨w.heap.size,j,none⟩:=by
  unfold Addr.add
  split
  · rename_i h0;rw[h0]
  · simp
 rw[e];exact this
theorem LY{e:En}(k:fe e=true):stI e.y e.mo e.d e.h e.mi e.s=((eN e:Nat):Int):=by
 obtain⟨_,_,f3⟩:=ck (n:=e.n) (t:=e.t) k;obtain⟨_,_,_,g4⟩:=ny f3;rw[g4];rfl
theorem Tryz.infoLh:(Tryz.prog.info? 53).map (fun i=>(i.zero,i.size,i.bytes))=some (some (.agg #[.int .i64 0,.int .i64 0,.int .i64 0,.int .i64 0,.int .i64 0,.string ⟨#[]⟩,.string ⟨#[]⟩]),7,72):=by kernel_rfl
abbrev Le:=aQ (α:=En) 53 7 sM
theorem y9(a:Option Addr)(cap n:Nat)(l:List En)(w:World)(hn:l.length=n)(h:gT w a l)(hm:n<=6)(hs:∀i,i<n->fe (l.getD i default)=true)(hO:bY w) :
  Calls Tryz.prog 27 #[.slice a n cap,.func (.func 28) #[] #[]] w fun e w'=>∃v,e = .returned v/\Le w' w.heap.size v l/\Below w.heap.size w w':=by
 have hmI:(n:Int)<=6:=by omega
 have Hn:=af hn;have Hm:=af hm;have HS:=af hs;have HR:=af h;have HO:=af hO;clear hn hm hs h hO;obtain⟨i0,hi,hz0,hz1,hz2⟩:=a0r Tryz.infoLh;go_enter Tryz.func27,Tryz.ntmps27;go_wp2_with fail
 go_loopw [5,7,10] (fun o _ i wr=>∃k:Nat,k<=n/\i = .int .i64 k/\Le wr w.heap.size o (l.take k)/\Below w.heap.size w wr) (fun _ _ i _=>n-(intOf i).toNat)
 case atStart=>exact⟨0,a0h _,rfl,aQ.nil _ _,a0b _ _⟩
 case round=>
  obtain⟨k,hk,rfl,hq,hbel⟩:=hrel;by_cases hlt:k<n
  ·
   obtain⟨g,o,rfl,hg,hcc⟩:=(ae HR).later hbel (by have:=ae Hn;omega);obtain⟨c0,c1,c2,c3,c4,c5,c6,c7⟩:=hcc k (by have:=ae Hn;omega);have hst:=af (mw l default k (by have:=ae Hn;omega));have hlk:Hid ((l.take k).length=k):=by show _=_;have:=ae Hn;simp;omega
   have Hk:=af hk;have HE:=ae HS k hlt;have hsI:=LY HE;have htz:=(ck (n:=(l.getD k default).n) (t:=(l.getD k default).t) HE).2.1;clear hcc hk HE;generalize l.getD k default=en at *
   have HP:=af (fun W (hb:Below w.heap.size w W)=>px en.n en.t en.y en.mo en.d en.h en.mi en.s W (by omega) ((ae HO).later hb));rw[hsI]at HP;clear hsI htz;have hA:Below wr.heap.size wr (wr.alloc (.cells #[.string en.n,.int .i64 en.y,.int .i64 en.mo,.int .i64 en.d,.int .i64 en.h,.int .i64 en.mi,.int .i64 en.s,.string en.t] 26)):=(a0b _ _).alloc (a0a _) _;have HA:=af hA;have HQ:=af hq;have HBel:=af hbel;clear hA hq hbel;go_wp2_with fail;refine(ae HP _ (ag (ae HBel) (ae HA))).mono ?_;rintro e x1 ⟨rfl,hb1⟩;have hW:=ag (ae HA) hb1;have hq1:=aQ.own (ae hlk) ((ae HQ).later hW (a0a _));have hbel1:=ag (ae HBel) hW;have hbs1:=hbel1.size;have hlen1:Hid (k+1<=maxLen/\(k+1)*72<=140737488355328):=by
    show _/\_;have:=ae Hm;unfold maxLen;omega
   clear HQ HBel HA hb1 hW HP;go_wp2_with (at_builtin;refine a0F _ rfl _ _ 48 rfl w.heap.size 53 i0 (.agg #[.int .i64 0,.int .i64 0,.int .i64 0,.int .i64 0,.int .i64 0,.string ⟨#[]⟩,.string ⟨#[]⟩]) 7 72 Tryz.underlying48 hi hz0 hz1 hz2 rfl (by decide) _ _ _ rfl (a0m hq1 _) ⟨x1.heap.size,0,none⟩ 1 1 (sM en) rfl rfl (gO x1 _ _) (Cv en) (ae hlen1).1 (ae hlen1).2 (ay hbs1 _) ?_;intro v' x2 hown hgrow hnil;clear hnil);have hb2:=aK (v:=u5) hgrow hq1 (a0a _) hbs1 hbel1;have hq2:Le x2 w.heap.size v' _:=aQ.snoc (ae hlk) hown;rw[←ae hst]at hq2;clear hown hgrow hq1;go_wp2;go_roundw
   case rel=>exact⟨k+1,by have:=ae Hk;omega,by go_num,hq2,hb2⟩
   case measure=>simp[intOf];omega
  · have hkn:l.take k=l:=a0t (by rw[ae Hn];omega);rw[hkn]at hq;have HQ:=af hq;have HB:=af hbel;clear hq hbel hkn;go_wp2;go_ret;exact⟨_,rfl,ae HQ,ae HB⟩
def BlS(w:World)(vs:List Value)(W:World):Prop:=Below w.heap.size w W/\Blk W w.heap.size vs
theorem BlS.later{w W W':World}{vs:List Value}(k:BlS w vs W)(hb:Below W.heap.size W W'):BlS w vs W':=⟨ag k.1 hb,k.2.later hb k.2.1⟩
theorem BlS.drew{w W:World}{vs:List Value}(k:BlS w vs W):BlS w vs W.drew:=⟨k.1.drew,k.2.drew⟩
theorem uT(W:World)(x:Nat):bH (W.alloc (.cells #[.int .i64 ((x:Nat):Int)] 3)) (some ⟨W.heap.size,0,none⟩) (bX [x]):=by
 intro _;refine⟨W.heap.size,0,rfl,by simp,fun i hi=>?_⟩
 match i,hi with
 | 0,_=>simp[bX]
theorem wo(W:World)(x y z u:Nat):bH (W.alloc (.cells #[.int .i64 ((x:Nat):Int),.int .i64 ((y:Nat):Int),.int .i64 ((z:Nat):Int),.int .i64 ((u:Nat):Int)] 3)) (some ⟨W.heap.size,0,none⟩) (bX [x,y,z,u]):=by
 intro _;refine⟨W.heap.size,0,rfl,by simp,fun i hi=>?_⟩
 match i,hi with
 | 0,_=>simp[bX]
 | 1,_=>simp[bX]
 | 2,_=>simp[bX]
 | 3,_=>simp[bX]
theorem oT(how st crc pk lg pl:Nat)(nm:ByteArray)(w:World)(h0:how<65536)(h1:st<4294967296)(h2:crc<4294967296)(h3:pk<4294967296)(h4:lg<4294967296)(h5:nm.size<65536)(h6:pl<4294967296) :
  Calls Tryz.prog 82 #[.agg #[.int .i64 (how:Nat),.int .i64 (st:Nat),.int .i64 (crc:Nat),.int .i64 (pk:Nat),.int .i64 (lg:Nat),.string nm,.int .i64 (pl:Nat)]] w fun e w'=>e = .returned (.string (lP how st crc pk lg nm pl))/\Below w.heap.size w w':=by
 have hmix:Tryz.prog.follows .mixedOrders=true:=by kernel_rfl
 have CW:Hid (∀g W,bH W (some ⟨g,0,none⟩) (bX [20])->Calls Tryz.prog 83 #[.slice (some ⟨g,0,none⟩) 1 1] W fun e w'=>e = .returned (.string (aZ (leS 2 20)))/\Below W.heap.size W w'):=fun g W h=>by
  have:=cV (some ⟨g,0,none⟩) 1 1 [20] W rfl h (by decide) (by decide);rw[show([20]:List Nat).flatMap (leS 2)=leS 2 20 by simp]at this;exact this
 have CT:Hid (∀W,Calls Tryz.prog 112 #[.agg #[.int .i64 (how:Nat),.int .i64 (st:Nat),.int .i64 (crc:Nat),.int .i64 (pk:Nat),.int .i64 (lg:Nat),.string nm]] W fun e w'=>e = .returned (.string (kR how st crc pk lg nm.size))/\Below W.heap.size W w'):=fun W=>yi how st crc pk lg nm W h0 h1 h2 h3 h4 h5;have CL:Hid (∀W,Calls Tryz.prog 84 #[.int .i64 (pl:Int)] W fun e w'=>e = .returned (.string (aZ (leS 4 pl)))/\Below W.heap.size W w'):=fun W=>cT pl W h6;have z0:((aZ (leS 2 20)).size:Int)<=100:=by rw[cm,aC];omega
 have z1:((kR how st crc pk lg nm.size).size:Int)<=100:=by rw[fQ];omega
 have z2:((aZ (leS 4 pl)).size:Int)<=100:=by rw[cm,aC];omega
 have hnI:(nm.size:Int)<65536:=by omega
 unfold lP;generalize aZ (leS 2 20)=A0 at *
 generalize kR how st crc pk lg nm.size=A1 at *
 generalize aZ (leS 4 pl)=A2 at *
 have T0':Hid (BlS w [.int .i64 (how:Nat),.int .i64 (st:Nat),.int .i64 (crc:Nat),.int .i64 (pk:Nat),.int .i64 (lg:Nat),.string nm,.int .i64 (pl:Nat)] (w.alloc (.cells #[.int .i64 (how:Nat),.int .i64 (st:Nat),.int .i64 (crc:Nat),.int .i64 (pk:Nat),.int .i64 (lg:Nat),.string nm,.int .i64 (pl:Nat)] 81))):=⟨(a0b _ _).alloc (a0a _) _,az w _ _⟩;clear h0 h1 h2 h3 h4 h5 h6;go_enter Tryz.func82,Tryz.ntmps82;go_wp2_with fail;obtain⟨W0,hW0⟩:∃x,w.alloc (.cells #[.int .i64 (how:Nat),.int .i64 (st:Nat),.int .i64 (crc:Nat),.int .i64 (pk:Nat),.int .i64 (lg:Nat),.string nm,.int .i64 (pl:Nat)] 81)=x:=⟨_,rfl⟩;rw[hW0]at T0';rw[hW0];have T0:=T0';clear T0' hW0;refine wp_region_held_drew (S:=BlS w [.int .i64 (how:Nat),.int .i64 (st:Nat),.int .i64 (crc:Nat),.int .i64 (pk:Nat),.int .i64 (lg:Nat),.string nm,.int .i64 (pl:Nat)]) hmix (ae T0).drew (fun hS=>?_);refine ai 3 (.pointer (some ⟨w.heap.size,0,none⟩)) rfl (by kernel_rfl) (fun _ _ _ h=>h) rfl (fun W hSw=>by go_simp) hS ?_;refine ai 4 (.agg #[.int .i64 (how:Nat),.int .i64 (st:Nat),.int .i64 (crc:Nat),.int .i64 (pk:Nat),.int .i64 (lg:Nat),.string nm]) rfl (by kernel_rfl) (fun _ _ _ h=>h) rfl (fun W hSw=>by have s0:=hSw.2.cell 0 _ rfl;have s1:=hSw.2.cell 1 _ rfl;have s2:=hSw.2.cell 2 _ rfl;have s3:=hSw.2.cell 3 _ rfl;have s4:=hSw.2.cell 4 _ rfl;have s5:=hSw.2.cell 5 _ rfl;go_simp) hS ?_;refine ai 8 (.pointer (some ⟨w.heap.size,6,none⟩)) rfl (by kernel_rfl) (fun _ _ _ h=>h) rfl (fun W hSw=>by go_simp) hS ?_;refine ai 9 (.int .i64 (pl:Nat)) rfl (by kernel_rfl) (fun _ _ _ h=>h) rfl (fun W hSw=>by have s6:=hSw.2.cell 6 _ rfl;go_simp) hS ?_;refine ai 12 (.pointer (some ⟨w.heap.size,0,none⟩)) rfl (by kernel_rfl) (fun _ _ _ h=>h) rfl (fun W hSw=>by go_simp) hS ?_;refine ai 13 (.pointer (some ⟨w.heap.size,5,none⟩)) rfl (by kernel_rfl) (fun _ _ _ h=>h) rfl (fun W hSw=>by go_simp) hS ?_;refine ai 14 (.string nm) rfl (by kernel_rfl) (fun _ _ _ h=>h) rfl (fun W hSw=>by have s5:=hSw.2.cell 5 _ rfl;go_simp) hS ?_;have T1:=af ((ae T0).drew);generalize W0.drew=W1 at *
 refine aj 0 (by kernel_rfl) rfl fun K hK=>?_;go_simp;have Bd:Below W1.heap.size W1 (W1.alloc (.cells #[.int .i64 20] 3)):=(a0b _ _).alloc (a0a _) _;have T2:=af ((ae T1).later Bd);have R2:Hid (bH (W1.alloc (.cells #[.int .i64 20] 3)) (some ⟨W1.heap.size,0,none⟩) (bX [20])):=uT _ _;refine Shut.out hK _ _ (ae T2) (fun hS=>?_);clear hK K Bd T1;obtain⟨g,hg⟩:∃x,W1.heap.size=x:=⟨_,rfl⟩;obtain⟨W2,hW2⟩:∃x,W1.alloc (.cells #[.int .i64 20] 3)=x:=⟨_,rfl⟩;rw[hW2]at T2 hS;rw[hg,hW2]at R2;rw[hg,hW2];refine aj 1 (by kernel_rfl) rfl fun K hK=>?_;go_simp;go_at_call 83;refine(ae CW g W2 (ae R2)).mono ?_;rintro e W3 ⟨rfl,Bd⟩;have T3:=af ((ae T2).later Bd);refine Shut.out hK _ _ (ae T3) (fun hS=>?_);clear hK K Bd T2;refine ai 2 (.string ((⟨#[80,75,1,2]⟩:ByteArray)++A0)) rfl (by kernel_rfl) (fun _ _ _ h=>h) rfl (fun W hSw=>by go_simp<;>omega) hS ?_;refine aj 5 (by kernel_rfl) rfl fun K hK=>?_;go_simp;go_at_call 112;refine(ae CT W3).mono ?_;rintro e W4 ⟨rfl,Bd⟩;have T4:=af ((ae T3).later Bd);refine Shut.out hK _ _ (ae T4) (fun hS=>?_);clear hK K Bd T3;refine ai 6 (.string ((⟨#[80,75,1,2]⟩:ByteArray)++A0++A1)) rfl (by kernel_rfl) (fun _ _ _ h=>h) rfl (fun W hSw=>by go_simp<;>omega) hS ?_;refine ai 7 (.string ((⟨#[80,75,1,2]⟩:ByteArray)++A0++A1++(⟨#[0,0,0,0,0,0,0,0,0,0]⟩:ByteArray))) rfl (by kernel_rfl) (fun _ _ _ h=>h) rfl (fun W hSw=>by go_simp<;>omega) hS ?_;refine aj 10 (by kernel_rfl) rfl fun K hK=>?_;go_simp;go_at_call 84;refine(ae CL W4).mono ?_;rintro e W5 ⟨rfl,Bd⟩;have T5:=af ((ae T4).later Bd);refine Shut.out hK _ _ (ae T5) (fun hS=>?_);clear hK K Bd T4;refine ai 11 (.string ((⟨#[80,75,1,2]⟩:ByteArray)++A0++A1++(⟨#[0,0,0,0,0,0,0,0,0,0]⟩:ByteArray)++A2)) rfl (by kernel_rfl) (fun _ _ _ h=>h) rfl (fun W hSw=>by go_simp<;>omega) hS ?_;refine ai 15 (.string ((⟨#[80,75,1,2]⟩:ByteArray)++A0++A1++(⟨#[0,0,0,0,0,0,0,0,0,0]⟩:ByteArray)++A2++nm)) rfl (by kernel_rfl) (fun _ _ _ h=>h) rfl (fun W hSw=>by go_simp<;>omega) hS ?_;refine aj 16 (by kernel_rfl) rfl fun K hK=>?_;go_simp;refine Shut.out hK _ _ (ae T5) (fun hS=>?_);clear hK K;refine wpAnyH_done (by kernel_rfl) ?_ _;clear hS;generalize hAA:(⟨#[80,75,1,2]⟩:ByteArray)++A0++A1++(⟨#[0,0,0,0,0,0,0,0,0,0]⟩:ByteArray)++A2++nm=AA;go_wp2;go_ret;exact⟨by rw[←hAA];rfl,(ae T5).1⟩
def rW(w:World)(a:Option Addr)(n:Nat)(f:Nat->List Value):Prop:=0<n->∃g,a=some ⟨g,0,none⟩/\g<w.heap.size/\∀i,i<n->∀j u,(f i)[j]?=some u->w.cell? ⟨g,i*7+j,none⟩=some u
theorem rW.later{w w':World}{a:Option Addr}{n:Nat}{f:Nat->List Value}(h:rW w a n f)(hb:Below w.heap.size w w'):rW w' a n f:=by
 intro h0;obtain⟨g,e,hg,hc⟩:=h h0;exact⟨g,e,a0g hg hb.size,fun i hi j u hu=>(hb.cell (p:=⟨g,i*7+j,none⟩) hg).trans (hc i hi j u hu)⟩
theorem rt{α:Type}{T:TypeId}{f:α->List Value}(hf:∀x,(f x).length=7){w:World}{base cap n:Nat}{a:Option Addr}{l:List α}(d:α)(hn:l.length=n)(h:aQ T 7 f w base (.slice a n cap) l):rW w a n fun i=>f (l.getD i d):=by
 intro h0;obtain⟨g,rfl⟩:=h.somes (by omega);refine⟨g,rfl,h.below.2,fun i hi j u hu=>?_⟩;have hj:j<7:=by
  rw[←hf (l.getD i d)];exact(List.getElem?_eq_some_iff.mp hu).1
 rw[(aQ.at hf d hn h i j hi hj).1];exact hu
def sf(l:List En)(k:Nat):En×Nat:=(l.getD k default,(aG (l.take k)).1.size)
def hdL(l:List En)(n:Nat):List (En×Nat):=(List.range n).map (sf l)
theorem mV(l:List En)(n:Nat):(hdL l n).length=n:=by simp[hdL]
theorem F6(l:List En)(n:Nat):hdL l (n+1)=hdL l n++[sf l n]:=by simp[hdL,List.range_succ]
theorem JR(l:List En)(n i:Nat)(d:En×Nat)(h:i<n):(hdL l n).getD i d=sf l i:=by simp[hdL,List.getD,h]
theorem FK(L:ByteArray)(many long pl:Nat):L++(⟨#[80,75,5,6]⟩:ByteArray)++aZ ([0,0,many,many].flatMap (leS 2))++aZ (leS 4 long)++aZ (leS 4 pl)++aZ ([0].flatMap (leS 2))=L++ep many long pl:=by
 unfold ep;simp only[a2J]
theorem Ar(a:Option Addr)(cap n:Nat)(l:List En)(w:World)(hn:l.length=n)(h:rW w a n fun i=>mQ (sf l i))(hm:n<=6)(hs:∀i,i<n->fe (l.getD i default)=true) :
  Calls Tryz.prog 52 #[.slice a n cap,.int .i64 ((aG l).1.size:Nat)] w fun e w'=>e = .returned (.string ((aG l).2++ep n (aG l).2.size (aG l).1.size))/\Below w.heap.size w w':=by
 have HZ:=af (lH l (fun i hi=>hs i (by omega)));have hz:=ae HZ n (by omega);rw[a0t (by omega)]at hz;have hP:(aG l).1.size<4294967296:=by omega
 have hL:(aG l).2.size<4294967296:=by omega
 have hLI:((aG l).2.size:Int)<=600:=by omega
 have Hn:=af hn;have HS:=af hs;have HR:=af h;have CW4:Hid (∀g W,bH W (some ⟨g,0,none⟩) (bX [0,0,n,n])->Calls Tryz.prog 83 #[.slice (some ⟨g,0,none⟩) 4 4] W fun e w'=>e = .returned (.string (aZ ([0,0,n,n].flatMap (leS 2))))/\Below W.heap.size W w'):=fun g W h=>cV (some ⟨g,0,none⟩) 4 4 [0,0,n,n] W rfl h (by decide) (by intro x hx;simp at hx;omega);have CW1:Hid (∀g W,bH W (some ⟨g,0,none⟩) (bX [0])->Calls Tryz.prog 83 #[.slice (some ⟨g,0,none⟩) 1 1] W fun e w'=>e = .returned (.string (aZ ([0].flatMap (leS 2))))/\Below W.heap.size W w'):=fun g W h=>cV (some ⟨g,0,none⟩) 1 1 [0] W rfl h (by decide) (by decide);have CLL:Hid (∀W,Calls Tryz.prog 84 #[.int .i64 ((aG l).2.size:Int)] W fun e w'=>e = .returned (.string (aZ (leS 4 (aG l).2.size)))/\Below W.heap.size W w'):=fun W=>cT _ W hL;have CLP:Hid (∀W,Calls Tryz.prog 84 #[.int .i64 ((aG l).1.size:Int)] W fun e w'=>e = .returned (.string (aZ (leS 4 (aG l).1.size)))/\Below W.heap.size W w'):=fun W=>cT _ W hP;have z1:((aZ ([0,0,n,n].flatMap (leS 2))).size:Int)<=100:=by rw[cm];simp[aC]
 have z2:((aZ ([0].flatMap (leS 2))).size:Int)<=100:=by rw[cm];simp[aC]
 have z3:((aZ (leS 4 (aG l).2.size)).size:Int)<=100:=by rw[cm,aC];omega
 have z4:((aZ (leS 4 (aG l).1.size)).size:Int)<=100:=by rw[cm,aC];omega
 have HE:=af (FK (aG l).2 n (aG l).2.size (aG l).1.size);generalize (aG l).2++ep n (aG l).2.size (aG l).1.size=RES at *
 generalize aZ ([0,0,n,n].flatMap (leS 2))=A1 at *
 generalize aZ ([0].flatMap (leS 2))=A2 at *
 generalize aZ (leS 4 (aG l).2.size)=A3 at *
 generalize aZ (leS 4 (aG l).1.size)=A4 at *
 obtain⟨PL,hPL⟩:∃x,(aG l).1.size=x:=⟨_,rfl⟩;obtain⟨LI,hLI'⟩:∃x,(aG l).2=x:=⟨_,rfl⟩;rw[hPL]at CLP hP;rw[hLI']at CLL HE hLI hL;have HLI:=af hLI';rw[hPL];clear hn h hs hz hP hL hPL hLI';go_enter Tryz.func52,Tryz.ntmps52;go_wp2_with fail
 go_loopw [5,7,10] (fun o _ i wr=>∃k:Nat,k<=n/\i = .int .i64 k/\o = .string (aG (l.take k)).2/\Below w.heap.size w wr) (fun _ _ i _=>n-(intOf i).toNat)
 case atStart=>exact⟨0,a0h _,rfl,rfl,a0b _ _⟩
 case round=>
  obtain⟨k,hk,rfl,rfl,hbel⟩:=hrel;by_cases hlt:k<n
  ·
   obtain⟨g,rfl,hg,hcc⟩:=(ae HR).later hbel (by omega);have c0:=hcc k hlt 0 _ rfl;have c1:=hcc k hlt 1 _ rfl;have c2:=hcc k hlt 2 _ rfl;have c3:=hcc k hlt 3 _ rfl;have c4:=hcc k hlt 4 _ rfl;have c5:=hcc k hlt 5 _ rfl;have c6:=hcc k hlt 6 _ rfl;simp only[sf]at c0 c1 c2 c3 c4 c5 c6;rw[a0X]at c0;have hst:Hid ((aG (l.take (k+1))).2=(aG (l.take k)).2++heE (l.getD k default) (aG (l.take k)).1.size):=by show _=_;rw[gR l k (by have:=ae Hn;omega)];rfl
   have hsz:=ae HZ k (by have:=ae Hn;omega);have hszI:((aG (l.take k)).2.size:Int)<=600:=by omega
   have hplI:(aG (l.take k)).1.size<4294967296:=by omega
   have HEn:=ae HS k hlt;obtain⟨f1,f2,f3⟩:=ck (n:=(l.getD k default).n) (t:=(l.getD k default).t) HEn;have hN:=(ny f3).2.2;have hhe:=qt (l.getD k default) (aG (l.take k)).1.size;have hheI:((heE (l.getD k default) (aG (l.take k)).1.size).size:Int)<=100:=by omega
   have hcr:aR 0 (l.getD k default).t.data.toList<4294967296:=jq _ _ (by omega);have hfz:=jr (l.getD k default).t;have hbz:(bm (l.getD k default).t).size<=100000:=by unfold bm;split<;>omega
   have hwz:fi (l.getD k default).t<=8:=by unfold fi;split<;>omega
   have hN2:eN (l.getD k default)<4294967296:=by unfold eN;omega
   have HP:=af (fun W=>oT (fi (l.getD k default).t) (eN (l.getD k default)) (aR 0 (l.getD k default).t.data.toList) (bm (l.getD k default).t).size (l.getD k default).t.size (aG (l.take k)).1.size (l.getD k default).n W (by omega) hN2 hcr (by omega) (by omega) (by omega) hplI);have HX:Hid (lP (fi (l.getD k default).t) (eN (l.getD k default)) (aR 0 (l.getD k default).t.data.toList) (bm (l.getD k default).t).size (l.getD k default).t.size (l.getD k default).n (aG (l.take k)).1.size=heE (l.getD k default) (aG (l.take k)).1.size):=rfl;rw[ae HX]at HP;have HB:=af (a0c hbel hk);clear hcc HEn f1 f2 f3 hN hhe hsz hplI hcr hfz hbz hwz hN2 hbel hk HX;generalize fi (l.getD k default).t=v0 at *
   generalize eN (l.getD k default)=v1 at *
   generalize aR 0 (l.getD k default).t.data.toList=v2 at *
   generalize (bm (l.getD k default).t).size=v3 at *
   generalize (l.getD k default).t.size=v4 at *
   generalize (l.getD k default).n=v5 at *
   generalize heE (l.getD k default) (aG (l.take k)).1.size=HE1 at *
   generalize (aG (l.take k)).2=L1 at *
   generalize (aG (l.take k)).1.size=P1 at *
   have hA:Hid (Below wr.heap.size wr (wr.alloc (.cells #[.int .i64 (v0:Nat),.int .i64 (v1:Nat),.int .i64 (v2:Nat),.int .i64 (v3:Nat),.int .i64 (v4:Nat),.string v5,.int .i64 (P1:Nat)] 81))):=(a0b _ _).alloc (a0a _) _;go_wp2_with fail;refine(ae HP _).mono ?_;rintro e x1 ⟨rfl,hb1⟩;have HB2:=af (ag (ae HB).1 (ag (ae hA) hb1));clear hb1 hA;go_wp2;go_roundw
   case rel=>exact⟨k+1,by have:=(ae HB).2;omega,by go_num,by rw[ae hst],ae HB2⟩
   case measure=>simp[intOf];omega
  · have hkn:l.take k=l:=a0t (by rw[ae Hn];omega);rw[hkn,ae HLI];have HB:=af hbel;clear hbel hkn;have hA:Hid (Below wr.heap.size wr (wr.alloc (.cells #[.int .i64 0,.int .i64 0,.int .i64 (n:Nat),.int .i64 (n:Nat)] 3))):=(a0b _ _).alloc (a0a _) _;go_wp2_with fail;refine(ae CW4 _ _ (wo wr 0 0 n n)).mono ?_;rintro e x1 ⟨rfl,hb1⟩;have HB1:=af (ag (ae HB) (ag (ae hA) hb1));clear hb1 hA HB;go_wp2_with fail;refine(ae CLL _).mono ?_;rintro e x2 ⟨rfl,hb2⟩;have HB2:=af (ag (ae HB1) hb2);clear hb2 HB1;go_wp2_with fail;refine(ae CLP _).mono ?_;rintro e x3 ⟨rfl,hb3⟩;have HB3:=af (ag (ae HB2) hb3);clear hb3 HB2;have hA3:Hid (Below x3.heap.size x3 (x3.alloc (.cells #[.int .i64 0] 3))):=(a0b _ _).alloc (a0a _) _;go_wp2_with fail;refine(ae CW1 _ _ (uT x3 0)).mono ?_;rintro e x4 ⟨rfl,hb4⟩;have HB4:=af (ag (ae HB3) (ag (ae hA3) hb4));clear hb4 hA3 HB3;go_wp2;go_ret;exact⟨by rw[←ae HE];rfl,ae HB4⟩
structure Hq where
 how:Nat
 st:Nat
 crc:Nat
 pk:Nat
 lg:Nat
 nm:ByteArray
 pl:Nat
def vW(q:Hq):List Value:=[.int .i64 (q.how:Nat),.int .i64 (q.st:Nat),.int .i64 (q.crc:Nat),.int .i64 (q.pk:Nat),.int .i64 (q.lg:Nat),.string q.nm,.int .i64 (q.pl:Nat)]
theorem FH(e:Hq):(vW e).length=7:=rfl
theorem FI(e:Hq):∀u∈vW e,u.oneCell'=true:=by
 intro u hu;simp only[vW,a04,a2d,a1Y]at hu;rcases hu with rfl|rfl|rfl|rfl|rfl|rfl|rfl<;>rfl
def cQ(q:Hq):ByteArray:=lP q.how q.st q.crc q.pk q.lg q.nm q.pl
def okQ(q:Hq):Prop:=q.how<65536/\q.st<4294967296/\q.crc<4294967296/\q.pk<4294967296/\q.lg<4294967296/\q.nm.size<=54/\q.pl<4294967296
def dI(f:Nat->Hq):Nat->ByteArray
 | 0=>⟨#[]⟩
 | k+1=>dI f k++cQ (f k)
theorem qT(f:Nat->Hq):∀k,(∀i,i<k->okQ (f i))->(dI f k).size<=100*k
 | 0,_=>a0h _
 | k+1,h=>by
  have ih:=qT f k (fun i hi=>h i (by omega));have h1:=(h k (by omega)).2.2.2.2.2.1;have h2:(cQ (f k)).size=46+(f k).nm.size:=jp _ _ _ _ _ _ _;rw[dI,a0z];omega
theorem yz(a:Option Addr)(cap n P:Nat)(f:Nat->Hq)(w:World)(h:rW w a n fun i=>vW (f i))(hm:n<=6)(hs:∀i,i<n->okQ (f i))(hP:P<4294967296) :
  Calls Tryz.prog 52 #[.slice a n cap,.int .i64 (P:Nat)] w fun e w'=>e = .returned (.string (dI f n++ep n (dI f n).size P))/\Below w.heap.size w w':=by
 have hmI:(n:Int)<=6:=by omega
 have HZ:=af (fun k (hk:k<=n)=>qT f k (fun i hi=>hs i (by omega)));have hz:=ae HZ n (by omega);have hL:(dI f n).size<4294967296:=by omega
 have hLI:((dI f n).size:Int)<=600:=by omega
 have HS:=af hs;have HR:=af h;have CW4:Hid (∀g W,bH W (some ⟨g,0,none⟩) (bX [0,0,n,n])->Calls Tryz.prog 83 #[.slice (some ⟨g,0,none⟩) 4 4] W fun e w'=>e = .returned (.string (aZ ([0,0,n,n].flatMap (leS 2))))/\Below W.heap.size W w'):=fun g W h=>cV (some ⟨g,0,none⟩) 4 4 [0,0,n,n] W rfl h (by decide) (by intro x hx;simp at hx;omega);have CW1:Hid (∀g W,bH W (some ⟨g,0,none⟩) (bX [0])->Calls Tryz.prog 83 #[.slice (some ⟨g,0,none⟩) 1 1] W fun e w'=>e = .returned (.string (aZ ([0].flatMap (leS 2))))/\Below W.heap.size W w'):=fun g W h=>cV (some ⟨g,0,none⟩) 1 1 [0] W rfl h (by decide) (by decide);have CLL:Hid (∀W,Calls Tryz.prog 84 #[.int .i64 ((dI f n).size:Int)] W fun e w'=>e = .returned (.string (aZ (leS 4 (dI f n).size)))/\Below W.heap.size W w'):=fun W=>cT _ W hL;have CLP:Hid (∀W,Calls Tryz.prog 84 #[.int .i64 (P:Int)] W fun e w'=>e = .returned (.string (aZ (leS 4 P)))/\Below W.heap.size W w'):=fun W=>cT _ W hP;have z1:((aZ ([0,0,n,n].flatMap (leS 2))).size:Int)<=100:=by rw[cm];simp[aC]
 have z2:((aZ ([0].flatMap (leS 2))).size:Int)<=100:=by rw[cm];simp[aC]
 have z3:((aZ (leS 4 (dI f n).size)).size:Int)<=100:=by rw[cm,aC];omega
 have z4:((aZ (leS 4 P)).size:Int)<=100:=by rw[cm,aC];omega
 have HE:=af (FK (dI f n) n (dI f n).size P);generalize (dI f n)++ep n (dI f n).size P=RES at *
 generalize aZ ([0,0,n,n].flatMap (leS 2))=A1 at *
 generalize aZ ([0].flatMap (leS 2))=A2 at *
 generalize aZ (leS 4 (dI f n).size)=A3 at *
 generalize aZ (leS 4 P)=A4 at *
 obtain⟨LI,hLI'⟩:∃x,(dI f n)=x:=⟨_,rfl⟩;rw[hLI']at CLL HE hLI hL;have HLI:=af hLI';clear h hs hz hP hL hLI';go_enter Tryz.func52,Tryz.ntmps52;go_wp2_with fail
 go_loopw [5,7,10] (fun o _ i wr=>∃k:Nat,k<=n/\i = .int .i64 k/\o = .string (dI f k)/\Below w.heap.size w wr) (fun _ _ i _=>n-(intOf i).toNat)
 case atStart=>exact⟨0,a0h _,rfl,rfl,a0b _ _⟩
 case round=>
  obtain⟨k,hk,rfl,rfl,hbel⟩:=hrel;by_cases hlt:k<n
  ·
   obtain⟨g,rfl,hg,hcc⟩:=(ae HR).later hbel (by omega);have c0:=hcc k hlt 0 _ rfl;have c1:=hcc k hlt 1 _ rfl;have c2:=hcc k hlt 2 _ rfl;have c3:=hcc k hlt 3 _ rfl;have c4:=hcc k hlt 4 _ rfl;have c5:=hcc k hlt 5 _ rfl;have c6:=hcc k hlt 6 _ rfl;rw[a0X]at c0;have hst:Hid (dI f (k+1)=dI f k++cQ (f k)):=rfl;have hsz:=ae HZ k (by omega);have hszI:((dI f k).size:Int)<=600:=by omega
   obtain⟨o0,o1,o2,o3,o4,o5,o6⟩:=ae HS k hlt;have hhe:(cQ (f k)).size=46+(f k).nm.size:=jp _ _ _ _ _ _ _;have hheI:((cQ (f k)).size:Int)<=100:=by omega
   have HP:=af (fun W=>oT (f k).how (f k).st (f k).crc (f k).pk (f k).lg (f k).pl (f k).nm W o0 o1 o2 o3 o4 (by omega) o6);have HX:Hid (lP (f k).how (f k).st (f k).crc (f k).pk (f k).lg (f k).nm (f k).pl=cQ (f k)):=rfl;rw[ae HX]at HP;have HB:=af (a0c hbel hk);clear hcc o0 o1 o2 o3 o4 o5 o6 hhe hsz hbel hk HX;generalize cQ (f k)=HE1 at *
   generalize (f k).how=v0 at *
   generalize (f k).st=v1 at *
   generalize (f k).crc=v2 at *
   generalize (f k).pk=v3 at *
   generalize (f k).lg=v4 at *
   generalize (f k).nm=v5 at *
   generalize (f k).pl=P1 at *
   generalize dI f k=L1 at *
   have hA:Hid (Below wr.heap.size wr (wr.alloc (.cells #[.int .i64 (v0:Nat),.int .i64 (v1:Nat),.int .i64 (v2:Nat),.int .i64 (v3:Nat),.int .i64 (v4:Nat),.string v5,.int .i64 (P1:Nat)] 81))):=(a0b _ _).alloc (a0a _) _;go_wp2_with fail;refine(ae HP _).mono ?_;rintro e x1 ⟨rfl,hb1⟩;have HB2:=af (ag (ae HB).1 (ag (ae hA) hb1));clear hb1 hA;go_wp2;go_roundw
   case rel=>exact⟨k+1,by have:=(ae HB).2;omega,by go_num,by rw[ae hst],ae HB2⟩
   case measure=>simp[intOf];omega
  ·
   have hkn:k=n:=by omega
   subst hkn;rw[ae HLI];have HB:=af hbel;clear hbel;have hA:Hid (Below wr.heap.size wr (wr.alloc (.cells #[.int .i64 0,.int .i64 0,.int .i64 (k:Nat),.int .i64 (k:Nat)] 3))):=(a0b _ _).alloc (a0a _) _;go_wp2_with fail;refine(ae CW4 _ _ (wo wr 0 0 k k)).mono ?_;rintro e x1 ⟨rfl,hb1⟩;have HB1:=af (ag (ae HB) (ag (ae hA) hb1));clear hb1 hA HB;go_wp2_with fail;refine(ae CLL _).mono ?_;rintro e x2 ⟨rfl,hb2⟩;have HB2:=af (ag (ae HB1) hb2);clear hb2 HB1;go_wp2_with fail;refine(ae CLP _).mono ?_;rintro e x3 ⟨rfl,hb3⟩;have HB3:=af (ag (ae HB2) hb3);clear hb3 HB2;have hA3:Hid (Below x3.heap.size x3 (x3.alloc (.cells #[.int .i64 0] 3))):=(a0b _ _).alloc (a0a _) _;go_wp2_with fail;refine(ae CW1 _ _ (uT x3 0)).mono ?_;rintro e x4 ⟨rfl,hb4⟩;have HB4:=af (ag (ae HB3) (ag (ae hA3) hb4));clear hb4 hA3 HB3;go_wp2;go_ret;exact⟨by rw[←ae HE];rfl,ae HB4⟩
theorem Tryz.infoHd:(Tryz.prog.info? 81).map (fun i=>(i.zero,i.size,i.bytes))=some (some (.agg #[.int .i64 0,.int .i64 0,.int .i64 0,.int .i64 0,.int .i64 0,.string ⟨#[]⟩,.int .i64 0]),7,64):=by kernel_rfl
abbrev Md:=aQ (α:=En×Nat) 81 7 mQ
theorem Blk.grown{w w':World}{b:Nat}{vs:List Value}{row:Option Nat}(h:Blk w b vs)(hg:w.grownBy w' row)(hr:some b≠row):Blk w' b vs:=
 ⟨a0g h.1 hg.size,fun i v e=>⟨(World.cell?_of_block (hg.block b h.1 hr)).trans (h.2 i v e).1,(World.frozen?_of_block (hg.block b h.1 hr)).trans (h.2 i v e).2⟩⟩
theorem yD(a:Option Addr)(cap n:Nat)(l:List En)(w:World)(hn:l.length=n)(h:rW w a n fun i=>sM (l.getD i default))(hm:n<=6)(hs:∀i,i<n->fe (l.getD i default)=true) :
  Calls Tryz.prog 26 #[.slice a n cap] w fun e w'=>e = .returned (.string ((aG l).1++(aG l).2++ep n (aG l).2.size (aG l).1.size))/\Below w.heap.size w w':=by
 have hmI:(n:Int)<=6:=by omega
 have HZ:=af (lH l (fun i hi=>hs i (by omega)));have Hn:=af hn;have Hm:=af hm;have HS:=af hs;have HR:=af h;have CEnd:=af (fun W b c (h:rW W b n fun i=>mQ (sf l i))=>Ar b c n l W hn h hm hs);have hz:=ae HZ n (by omega);rw[a0t (by omega)]at hz;have HZE:Hid (((aG l).2++ep n (aG l).2.size (aG l).1.size).size<=1000):=by
  show _<=_;rw[a0z,nV];omega
 have hz1:((aG l).1.size:Int)<=2400:=by omega
 have HAs:Hid ((aG l).1++(aG l).2++ep n (aG l).2.size (aG l).1.size=(aG l).1++((aG l).2++ep n (aG l).2.size (aG l).1.size)):=a2J;rw[ae HAs];clear hn h hs hm hz HAs;obtain⟨i0,hi,hy0,hy1,hy2⟩:=a0r Tryz.infoHd;go_enter Tryz.func26,Tryz.ntmps26;go_wp2_with fail
 go_loopw [3,4,6,9] (fun o q _ i wr=>∃k:Nat,k<=n/\i = .int .i64 k/\o = .string (aG (l.take k)).1/\Md wr w.heap.size q (hdL l k)/\Below w.heap.size w wr) (fun _ _ _ i _=>n-(intOf i).toNat)
 case atStart=>exact⟨0,a0h _,rfl,rfl,aQ.nil _ _,a0b _ _⟩
 case round=>
  obtain⟨k,hk,rfl,rfl,hq,hbel⟩:=hrel;by_cases hlt:k<n
  ·
   obtain⟨g,rfl,hg,hcc⟩:=(ae HR).later hbel (by omega);have c0:=hcc k hlt 0 _ rfl;have c1:=hcc k hlt 1 _ rfl;have c2:=hcc k hlt 2 _ rfl;have c3:=hcc k hlt 3 _ rfl;have c4:=hcc k hlt 4 _ rfl;have c5:=hcc k hlt 5 _ rfl;have c6:=hcc k hlt 6 _ rfl;rw[a0X]at c0;have hst:Hid ((aG (l.take (k+1))).1=(aG (l.take k)).1++loE (l.getD k default)):=by show _=_;rw[gR l k (by have:=ae Hn;omega)];rfl
   have hsn:=af (F6 l k);have hsz:=ae HZ k (by have:=ae Hn;omega);have hszI:((aG (l.take k)).1.size:Int)<=2400:=by omega
   have HEn:=ae HS k hlt;obtain⟨f1,f2,f3⟩:=ck (n:=(l.getD k default).n) (t:=(l.getD k default).t) HEn;have hN:=(ny f3).2.2;have hlo:=(wX HEn).2;have hloI:((loE (l.getD k default)).size:Int)<=400:=by omega
   have hcr:aR 0 (l.getD k default).t.data.toList<4294967296:=jq _ _ (by omega);have hfz:=jr (l.getD k default).t;have hbz:(bm (l.getD k default).t).size<=100000:=by unfold bm;split<;>omega
   have hwz:fi (l.getD k default).t<=8:=by unfold fi;split<;>omega
   have hN2:eN (l.getD k default)<4294967296:=by unfold eN;omega
   have HP:=af (fun W=>oM (fi (l.getD k default).t) (eN (l.getD k default)) (aR 0 (l.getD k default).t.data.toList) (bm (l.getD k default).t).size (l.getD k default).t.size (l.getD k default).n (bm (l.getD k default).t) W (by omega) hN2 hcr (by omega) (by omega) (by omega) hbz);have HX:Hid (bQ (fi (l.getD k default).t) (eN (l.getD k default)) (aR 0 (l.getD k default).t.data.toList) (bm (l.getD k default).t).size (l.getD k default).t.size (l.getD k default).n++bm (l.getD k default).t=loE (l.getD k default)):=rfl;rw[ae HX]at HP;have HK:=af hk;have HQ:=af hq;have HBel:=af hbel;clear hcc HEn f1 f2 f3 hN hsz hlo hcr hfz hbz hwz hN2 hk HX hq hbel;have HEnc:Hid (mQ (sf l k)=[.int .i64 (fi (l.getD k default).t:Nat),.int .i64 (eN (l.getD k default):Nat),.int .i64 (aR 0 (l.getD k default).t.data.toList:Nat),.int .i64 ((bm (l.getD k default).t).size:Nat),.int .i64 ((l.getD k default).t.size:Nat),.string (l.getD k default).n,.int .i64 ((aG (l.take k)).1.size:Nat)]):=rfl;have HOne:=af (Ct (sf l k));generalize hv0:fi (l.getD k default).t=v0 at *
   generalize eN (l.getD k default)=v1 at *
   generalize aR 0 (l.getD k default).t.data.toList=v2 at *
   generalize (bm (l.getD k default).t).size=v3 at *
   generalize (l.getD k default).t.size=v4 at *
   generalize (l.getD k default).n=v5 at *
   generalize bm (l.getD k default).t=v6 at *
   generalize loE (l.getD k default)=LO at *
   generalize (aG (l.take k)).1=F1 at *
   rw[ae HEnc]at HOne;have hA:Hid (Below wr.heap.size wr (wr.alloc (.cells #[.int .i64 (v0:Nat),.int .i64 (v1:Nat),.int .i64 (v2:Nat),.int .i64 (v3:Nat),.int .i64 (v4:Nat),.string v5,.string v6] 53))):=(a0b _ _).alloc (a0a _) _;have hlen1:Hid (k+1<=maxLen/\(k+1)*64<=140737488355328):=by
    show _/\_;have:=ae Hm;unfold maxLen;omega
   have hq1:=aQ.own (mV l k) ((ae HQ).later (ae hA) (a0a _));have hbel1:=ag (ae HBel) (ae hA);have hbs1:=hbel1.size;have HQ0:=af (aQ.own (mV l k) (ae HQ));have hP:=af (az wr #[.int .i64 (v0:Nat),.int .i64 (v1:Nat),.int .i64 (v2:Nat),.int .i64 (v3:Nat),.int .i64 (v4:Nat),.string v5,.string v6] 53);clear HQ HBel;obtain⟨W1,hW1⟩:∃x,wr.alloc (.cells #[.int .i64 (v0:Nat),.int .i64 (v1:Nat),.int .i64 (v2:Nat),.int .i64 (v3:Nat),.int .i64 (v4:Nat),.string v5,.string v6] 53)=x:=⟨_,rfl⟩;rw[hW1]at hA hq1 hbel1 hbs1 hP;have hap:Hid (∀j,Value.ownBlock u4=some j->j<wr.heap.size):=fun j hj=>(a0C (ae HQ0) j hj).2;have p0:=(ae hP).cell 0 _ rfl;have p1:=(ae hP).cell 1 _ rfl;have p2:=(ae hP).cell 2 _ rfl;have p3:=(ae hP).cell 3 _ rfl;have p4:=(ae hP).cell 4 _ rfl;have p5:=(ae hP).cell 5 _ rfl;go_wp2_with (at_builtin;refine a0F _ rfl _ _ 79 rfl w.heap.size 81 i0 (.agg #[.int .i64 0,.int .i64 0,.int .i64 0,.int .i64 0,.int .i64 0,.string ⟨#[]⟩,.int .i64 0]) 7 64 Tryz.underlying79 hi hy0 hy1 hy2 rfl (by decide) _ _ _ rfl (a0m hq1 _) ⟨W1.heap.size,0,none⟩ 1 1 [.int .i64 (v0:Nat),.int .i64 (v1:Nat),.int .i64 (v2:Nat),.int .i64 (v3:Nat),.int .i64 (v4:Nat),.string v5,.int .i64 (F1.size:Nat)] rfl rfl (gO W1 _ _) (ae HOne) (ae hlen1).1 (ae hlen1).2 (ay hbs1 _) ?_;intro v' x2 hown hgrow hnil;clear hnil;have hP2:=af (Blk.grown (Blk.later (ae hP) ((a0b _ _).alloc (a0a _) _) (ae hP).1) hgrow (fun e=>absurd (ae hap _ e.symm) (a2A _)));have r0:=(ae hP2).cell 0 _ rfl;have r1:=(ae hP2).cell 1 _ rfl;have r2:=(ae hP2).cell 2 _ rfl;have r3:=(ae hP2).cell 3 _ rfl;have r4:=(ae hP2).cell 4 _ rfl;have r5:=(ae hP2).cell 5 _ rfl;have r6:=(ae hP2).cell 6 _ rfl);refine(ae HP _).mono ?_;rintro e x3 ⟨rfl,hb3⟩;have hb2:=aK (v:=u4) hgrow hq1 (a0a _) hbs1 hbel1;have hq2:Md x2 w.heap.size v' (hdL l k++[sf l k]):=aQ.snoc (mV l k) (by rw[ae HEnc];exact hown);rw[←ae hsn]at hq2;have HQ3:=af (hq2.later hb3 (a0a _));have HB3:=af (ag hb2 hb3);clear hown hgrow hq1 hq2 hb2 hb3 hP2 r0 r1 r2 r3 r4 r5 r6 p0 p1 p2 p3 p4 p5 hbel1 hbs1 hP hA hW1;go_wp2;go_roundw
   case rel=>exact⟨k+1,by have:=ae HK;omega,by go_num,by rw[ae hst],ae HQ3,ae HB3⟩
   case measure=>simp[intOf];omega
  ·
   have hkn:k=n:=by omega
   subst hkn;rw[a0t (by rw[ae Hn];omega)];obtain⟨b,c,rfl,hcap,_⟩:=hq.formN (mV l k);have HW:=af (rt Cs (default,0) (mV l k) hq);have HB:=af hbel;clear hq hbel;have HW2:Hid (rW wr b k fun i=>mQ (sf l i)):=by
    intro h0;obtain⟨g,e,hg,hc⟩:=ae HW h0;exact⟨g,e,hg,fun i hi j u hu=>hc i hi j u (by show(mQ ((hdL l k).getD i _))[j]?=_;rw[JR l k i _ hi];exact hu)⟩
   have hE:=ae HZE;have hEI:(((aG l).2++ep k (aG l).2.size (aG l).1.size).size:Int)<=1000:=by omega
   clear HW hE HZE HZ HS HR;generalize hEN:(aG l).2++ep k (aG l).2.size (aG l).1.size=EN at *
   generalize hF1:(aG l).1=F1 at *
   have HEN:=af (a0c hEN hF1);clear hEN hF1;go_wp2_with fail;refine(ae CEnd _ _ _ (ae HW2)).mono ?_;rintro e x1 ⟨rfl,hb1⟩;have HB1:=af (ag (ae HB) hb1);clear hb1;go_wp2;go_ret;exact⟨by rw[←(ae HEN).1,←(ae HEN).2];rfl,ae HB1⟩
theorem bB(a:Option Addr)(cap:Nat)(l:List En)(n:Nat)(hn:l.length=n)(m:Int)(w:World)(h:gT w a l)(hl:(n:Int)<=1048576)(hcap:(n:Int)<=(cap:Int))
  (hs:∀i,i<n->(l.getD i default).n.size<=1048576/\((l.getD i default).t.size:Int)<=9223372036854775807) (hm:w.cell? ⟨2,0,none⟩=some (.int .i64 m)) (hg:iq w) (hO:bY w) :
  Calls Tryz.prog 11 #[.slice a n cap] w fun e w'=>e = .returned (.string (bz l))/\Below w.heap.size w w':=by
 have CZ:=af (dY a cap l n hn m w h hl hcap hs hm hg);cases hk:aY l
 ·
  have HP:Hid (bz l=⟨#[]⟩):=by simp[Hid,bz,hk]
  rw[hk]at CZ;clear h hs hm hg hO;go_enter Tryz.func11,Tryz.ntmps11;go_wp2_with fail;refine(ae CZ).mono ?_;rintro e x1 ⟨rfl,hb1⟩;have HB1:=af hb1;clear hb1;go_wp2;go_ret;exact⟨by rw[ae HP];rfl,ae HB1⟩
 ·
  obtain⟨hal,h6⟩:=da hk;have HP:Hid (bz l=(aG l).1++(aG l).2++ep n (aG l).2.size (aG l).1.size):=by
   show _=_;rw[bz,a0d hk,hn]
  have HAL:Hid (∀i,i<n->fe (l.getD i default)=true):=fun i hi=>hal i (by omega);have HN:=af hn;have H6:Hid (n<=6):=by show _<=_;omega
  have HR:=af h;have HO:=af hO;rw[hk]at CZ;clear h hs hm hg hO hal h6 hn;go_enter Tryz.func11,Tryz.ntmps11;go_wp2_with fail;refine(ae CZ).mono ?_;rintro e x1 ⟨rfl,hb1⟩;have HB1:=af hb1;clear hb1 CZ;go_wp2_with fail;refine(y9 a cap n l _ (ae HN) ((ae HR).later (ae HB1)) (ae H6) (ae HAL) ((ae HO).later (ae HB1))).mono ?_;rintro e x2 ⟨v,rfl,hq,hb2⟩;obtain⟨b,c,rfl,_,_⟩:=hq.formN (ae HN);have HB2:=af (ag (ae HB1) hb2);have HW:=af (rt Cu default (ae HN) hq);clear hq hb2 HB1;go_wp2_with fail;refine(yD b c n l _ (ae HN) (ae HW) (ae H6) (ae HAL)).mono ?_;rintro e x3 ⟨rfl,hb3⟩;have HB3:=af (ag (ae HB2) hb3);rw[←ae HP];clear hb3 HB2 HW;go_wp2;go_ret;exact⟨rfl,ae HB3⟩
end Go.Proofs.YtfhdadkcophoaaaGreatDoor
