/- Of what the proof is made: 5 texts, one behind the other. -/
import Derived.Test.YtbacpebljannfaaGreatDoorM7
import Derived.Test.YtbacpebljannfaaGreatDoorM2
import Derived.Test.YtbacpebljannfaaGreatDoorM8
import Derived.Test.YtbacpebljannfaaGreatDoorM4
import Derived.Deep.RegionHeld3
set_option linter.unusedSimpArgs false
set_option maxHeartbeats 1600000
namespace Go.Proofs.YtbacpebljannfaaGreatDoor
open Go.RowKit
structure Grp where
 cnt:Int
 fst:Int
 syms:List Int
 val:Value
def aS:List Grp->List Value
 | []=>[]
 | g :: l=>.int .i64 g.cnt :: .int .i64 g.fst :: g.val :: aS l
theorem jW(l:List Grp):(aS l).length=l.length*3:=by
 induction l with
 | nil=>rfl
 | cons p l ih=>simp only[aS,a0E,ih];omega
theorem iW(l m:List Grp):aS (l++m)=aS l++aS m:=by
 induction l with
 | nil=>rfl
 | cons p l ih=>simp[aS,ih]
theorem w8(l:List Grp)(k:Nat):aS (l.take k)=(aS l).take (k*3):=by
 induction l generalizing k with
 | nil=>simp[aS]
 | cons p l ih=>
  cases k with
  | zero=>simp[aS]
  | succ k=>rw[show(k+1)*3=k*3+1+1+1 by omega];simp[aS,ih]
theorem wZ(l:List Grp)(k:Nat):aS (l.drop k)=(aS l).drop (k*3):=by
 induction l generalizing k with
 | nil=>simp[aS]
 | cons p l ih=>
  cases k with
  | zero=>simp
  | succ k=>rw[show(k+1)*3=k*3+1+1+1 by omega];simp[aS,ih]
def g0:Grp:=⟨0,0,[],.slice none 0 0⟩
theorem y8(l:List Grp)(i:Nat)(h:i<l.length):(aS l)[i*3]?=some (.int .i64 (l.getD i g0).cnt)/\(aS l)[i*3+1]?=some (.int .i64 (l.getD i g0).fst)/\(aS l)[i*3+2]?=some (l.getD i g0).val:=by
 induction l generalizing i with
 | nil=>simp at h
 | cons p l ih=>
  cases i with
  | zero=>simp[aS]
  | succ i=>
   have:=ih i (by simpa using h);rw[show(i+1)*3=i*3+1+1+1 by omega];simpa[aS]using this
def cq(t:TypeId)(w:World)(base:Nat)(v:Value)(l:List Grp):Prop:=w.ownsRow base t 3 v l.length (aS l)
def dz(w:World)(ob:Nat)(l:List Grp):Prop:=∀g∈l,ak w ob g.val g.syms
theorem cq.form{t:TypeId}{w:World}{base:Nat}{v:Value}{l:List Grp}(h:cq t w base v l):∃a cap,v = .slice a l.length cap:=by
 rcases h.2 with⟨e,h0⟩|⟨g,cap,_,e,_⟩
 · exact⟨none,0,by rw[e,h0]⟩
 · exact⟨_,cap,e⟩
theorem cq.formN{t:TypeId}{w:World}{base n:Nat}{v:Value}{l:List Grp}(hn:l.length=n)(h:cq t w base v l):∃a cap,v = .slice a n cap:=by
 subst hn;exact h.form
theorem cq.somes{t:TypeId}{w:World}{base cap n:Nat}{a:Option Addr}{l:List Grp}(h:cq t w base (.slice a n cap) l)(hl:0<l.length):∃g,a=some ⟨g,0,none⟩:=by
 rcases h.2 with⟨_,e⟩|⟨g,cap',cur,e,_⟩
 · omega
 · simp only[a0O]at e;exact⟨g,e.1⟩
theorem cq.cap{t:TypeId}{w:World}{base cap n:Nat}{a:Option Addr}{l:List Grp}(hn:l.length=n)(h:cq t w base (.slice a n cap) l):n<=cap/\cap<=maxLen:=by
 rcases h.2 with⟨e,_⟩|⟨g,cap',cur,e,_,_,h1,h2,_⟩
 · simp only[a0O]at e;unfold maxLen;omega
 · simp only[a0O]at e;omega
theorem cq.at{t:TypeId}{w:World}{base g cap n:Nat}{l:List Grp}(hn:l.length=n)(h:cq t w base (.slice (some ⟨g,0,none⟩) n cap) l)(j:Nat)(hj:j<n) :
  w.cell? ⟨g,j*3,none⟩=some (.int .i64 (l.getD j g0).cnt)/\w.cell? ⟨g,j*3+1,none⟩=some (.int .i64 (l.getD j g0).fst)/\w.cell? ⟨g,j*3+2,none⟩=some (l.getD j g0).val/\base<=g/\g<w.heap.size:=by
 subst hn;have hp:=y8 l j hj;exact⟨(a02 h (j*3) (by omega)).trans hp.1,(a02 h (j*3+1) (by omega)).trans hp.2.1,(a02 h (j*3+2) (by omega)).trans hp.2.2,a0G h g rfl⟩
theorem sg{w w':World}{base B size n:Nat}{e:TypeId}{v:Value}{xs:List Value}(h:w.ownsRow base e size v n xs)(hb:Below B w w')(hB:w.heap.size<=B):w'.ownsRow base e size v n xs:=by
 refine⟨h.1,?_⟩;rcases h.2 with hn|⟨g,cap,cur,rfl,hbg,hgg,rest⟩
 · exact .inl hn
 · refine .inr ⟨g,cap,cur,rfl,hbg,?_,rest⟩;have hg:=(Array.getElem?_eq_some_iff.1 hgg).1;rw[hb.block g (by omega)];exact hgg
theorem cq.later{t:TypeId}{w w':World}{base B:Nat}{v:Value}{l:List Grp}(h:cq t w base v l)(hb:Below B w w')(hB:w.heap.size<=B):cq t w' base v l:=sg h hb hB
theorem dz.later{w w':World}{ob B:Nat}{l:List Grp}(h:dz w ob l)(hb:Below B w w')(hB:w.heap.size<=B):dz w' ob l:=fun g hg=>(h g hg).later hb hB
theorem rQ{w:World}{ob:Nat}{l:List Grp}(h:dz w ob l):∀u∈aS l,u.oneCell'=true:=by
 induction l with
 | nil=>intro u hu;simp[aS]at hu
 | cons p l ih=>
  intro u hu;simp only[aS,a04]at hu;rcases hu with rfl|rfl|rfl|hu
  · rfl
  · rfl
  · obtain⟨a,c,e⟩:=(h p (by simp)).form;rw[e];rfl
  · exact ih (fun g hg=>h g (by simp[hg])) u hu
theorem cq.news{t:TypeId}{w:World}{base g cap n:Nat}{l:List Grp}(hn:l.length=n)(h:cq t w base (.slice (some ⟨g,0,none⟩) n cap) l)(i k o:Nat)(ho:o=i*3)(hik:i+k<=n) :
  ∀j u,(aS ((l.drop i).take k))[j]?=some u->w.cell? ((⟨g,o,none⟩:Addr).add j)=some u:=by
 intro j u hj;subst ho hn;have hadd:(⟨g,i*3,none⟩:Addr).add j=⟨g,i*3+j,none⟩:=by unfold Addr.add;split<;>simp_all
 have hjl:=(List.getElem?_eq_some_iff.1 hj).1;rw[jW,a0L,a1c]at hjl;have hmin:min k (l.length-i)=k:=by omega
 rw[hmin]at hjl;rw[hadd,a02 h (i*3+j) (by omega),←hj,w8,wZ,List.getElem?_take,a0d hjl,List.getElem?_drop]
end Go.Proofs.YtbacpebljannfaaGreatDoor
namespace Go.Proofs.YtbacpebljannfaaGreatDoor
open Go.RowKit Corb
theorem jd(w:World)(vl vc vs:Value)(m:Nat->Nat)(t:TypeId):dt (w.alloc (.cells (aM vl vc vs m).toArray t)) w.heap.size vl vc vs m:=by
 refine dt.of_range ?_ (fun o=>cW w _ _ o) (by simp);intro j v hv;rw[a0M,cell_of_row _ _ _ _ t (0,0) (heap_alloc_new w _)];simpa using hv
theorem l3Piece_any(a ac:Option Addr)(cap n cc k:Nat)(l c:List Int)(w:World)(hn:l.length=n)(hnc:c.length=n)(h:aZ w a l)(hcr:aZ w ac c)(hk:k<n)(hm:n<=300)(hy:0<=l.getD k 0/\l.getD k 0<=15)(hz:0<=c.getD k 0/\c.getD k 0<65536) :
  Calls Tryz.prog 199 #[.slice a n cap,.slice ac n cc,.int .i64 (k:Int)] w fun e w'=>e = .returned (.agg #[.int .i64 (rv (l.getD k 0).toNat (c.getD k 0).toNat:Nat),.int .i64 (l.getD k 0)])/\Below w.heap.size w w':=by
 have hmI:(n:Int)<=300:=by omega
 have hkI:(k:Int)<(n:Int):=by omega
 obtain⟨g,o,rfl,hg,hc⟩:=h (by omega);obtain⟨g',o',rfl,hg',hc'⟩:=hcr (by omega);have d0:=hc k (by omega);have d1:=hc' k (by omega);obtain⟨y0,y1⟩:=hy;obtain⟨z0,z1⟩:=hz;clear hc hc' h hcr;generalize l.getD k 0=y at *
 generalize c.getD k 0=z at *
 have hb:Below w.heap.size w (w.alloc (.cells #[.int .i64 0,.int .i64 0] 114)):=(a0c _ _).alloc (a0a _) _;have y2:y<=16:=by omega
 go_enter Tryz.func199,Tryz.ntmps199;have HC:∀A:Array Value,(w.alloc (.cells A 114)).drew.cell? ⟨g,o+k,none⟩=some (.int .i64 y)/\(w.alloc (.cells A 114)).drew.cell? ⟨g',o'+k,none⟩=some (.int .i64 z):=fun A=>by
  have hb:Below w.heap.size w (w.alloc (.cells A 114)):=(a0c _ _).alloc (a0a _) _;exact⟨(hb.cell (p:=⟨g,o+k,none⟩) hg).trans d0,(hb.cell (p:=⟨g',o'+k,none⟩) hg').trans d1⟩
 go_wp2_with fail
 go_region_held3 (fun W=>W.cell? ⟨g,o+k,none⟩=some (.int .i64 y)/\W.cell? ⟨g',o'+k,none⟩=some (.int .i64 z)) (first|exact HC _|assumption) (first|(go_at_call 219;refine(jN _ _ _ z0 z1 y0 y2).mono ?_;rintro e x1 ⟨rfl,hx⟩;subst hx))
 go_wp2;exact a0v (v:=.agg #[.int .i64 (rv y.toNat z.toNat:Nat),.int .i64 y]) (by simp[results,Tryz.results199,go_sem]) rfl ⟨rfl,((a0c _ _).alloc (a0a _) _).drew⟩
end Go.Proofs.YtbacpebljannfaaGreatDoor
namespace Go.Proofs.YtbacpebljannfaaGreatDoor.Lit
open Go.Proofs.YtbacpebljannfaaGreatDoor
open Go.RowKit Corb
theorem jd(w:World)(vl vc vs:Value)(m:Nat->Nat)(t:TypeId):dt (w.alloc (.cells (aM vl vc vs m).toArray t)) w.heap.size vl vc vs m:=by
 refine dt.of_range ?_ (fun o=>cW w _ _ o) (by simp);intro j v hv;rw[Nat.zero_add,cell_of_row _ _ _ _ t (0,0) (heap_alloc_new w _)];simpa using hv
theorem bookPut_any(a ac:Option Addr)(cap n cc k:Nat)(vs:Value)(m:Nat->Nat)(C:Array Value)(l c:List Int)(w:World)(hC:C=(aM (.slice a n cap) (.slice ac n cc) vs m).toArray)(hn:l.length=n)(hnc:c.length=n)(h:aZ w a l)(hcr:aZ w ac c)(hk:k<n)(hm:n<=300) :
  Calls Tryz.prog 138 #[.agg C,.int .i64 (k:Int)] w fun e w'=>e = .returned (.agg #[.int .i64 (btI (c.getD k 0) (l.getD k 0)),.int .i64 (l.getD k 0)])/\Below w.heap.size w w':=by
 have e0:C[0]?=some (.slice a n cap):=by subst hC;rfl
 have e1:C[1]?=some (.slice ac n cc):=by subst hC;rfl
 have hmI:(n:Int)<=300:=by omega
 have hkI:(k:Int)<(n:Int):=by omega
 clear hC;obtain⟨g,o,rfl,hg,hc⟩:=h (by omega);obtain⟨g',o',rfl,hg',hc'⟩:=hcr (by omega);have d0:=hc k (by omega);have d1:=hc' k (by omega);have hb:Below w.heap.size w ((w.alloc (.cells C 131)).alloc (.cells #[.int .i64 0,.int .i64 0] 114)):=((Below.refl _ _).alloc (Nat.le_refl _) _).alloc (by simp) _;have r0:((w.alloc (.cells C 131)).alloc (.cells #[.int .i64 0,.int .i64 0] 114)).cell? ⟨w.heap.size+1,0,none⟩=some (.int .i64 0):=by
  have:=cell_of_row ((w.alloc (.cells C 131)).alloc (.cells #[.int .i64 0,.int .i64 0] 114)) (w.heap.size+1) 0 #[.int .i64 0,.int .i64 0] 114 (0,0) (heap_alloc2_new w _ _);rw[this];rfl
 have r1:((w.alloc (.cells C 131)).alloc (.cells #[.int .i64 0,.int .i64 0] 114)).cell? ⟨w.heap.size+1,1,none⟩=some (.int .i64 0):=by
  have:=cell_of_row ((w.alloc (.cells C 131)).alloc (.cells #[.int .i64 0,.int .i64 0] 114)) (w.heap.size+1) 1 #[.int .i64 0,.int .i64 0] 114 (0,0) (heap_alloc2_new w _ _);rw[this];rfl
 have hs2:((w.alloc (.cells C 131)).alloc (.cells #[.int .i64 0,.int .i64 0] 114)).heap.size=w.heap.size+2:=by simp
 have HR:=af (And.intro r0 (And.intro r1 (And.intro hs2 hb)));clear hc hc' h hcr r0 r1 hs2 hb;generalize l.getD k 0=y at *
 generalize c.getD k 0=z at *
 go_enter Tryz.func138,Tryz.ntmps138;go_wp2_with fail;refine(fN _ _ _).mono ?_;rintro e x1 ⟨rfl,hb1⟩;obtain⟨r0,r1,hs2,hb⟩:=ae HR;have q0:=(hb1.cell (p:=⟨w.heap.size+1,0,none⟩) (by rw[hs2];exact Nat.lt_succ_self _)).trans r0;have q1:=(hb1.cell (p:=⟨w.heap.size+1,1,none⟩) (by rw[hs2];exact Nat.lt_succ_self _)).trans r1;have f0:=hb1.frozen (p:=⟨w.heap.size+1,0,none⟩) (by rw[hs2];exact Nat.lt_succ_self _);have f1:=hb1.frozen (p:=⟨w.heap.size+1,1,none⟩) (by rw[hs2];exact Nat.lt_succ_self _);have hbn:=hb.trans (hb1.mono hb.size);clear HR r0 r1 hb hb1;go_wp2_with fail;exact bodyPost_ret (v:=.agg #[.int .i64 (btI z y),.int .i64 y]) (by simp[results,Tryz.results138,go_sem,q0,q1]) rfl ⟨rfl,ag (ag hbn (Nat.le_succ _) _) (Nat.le_succ _) _⟩
theorem l3Piece_any(a ac:Option Addr)(cap n cc k:Nat)(l c:List Int)(w:World)(hn:l.length=n)(hnc:c.length=n)(h:aZ w a l)(hcr:aZ w ac c)(hk:k<n)(hm:n<=300)(hy:0<=l.getD k 0/\l.getD k 0<=15)(hz:0<=c.getD k 0/\c.getD k 0<65536) :
  Calls Tryz.prog 199 #[.slice a n cap,.slice ac n cc,.int .i64 (k:Int)] w fun e w'=>e = .returned (.agg #[.int .i64 (rv (l.getD k 0).toNat (c.getD k 0).toNat:Nat),.int .i64 (l.getD k 0)])/\Below w.heap.size w w':=by
 have hmI:(n:Int)<=300:=by omega
 have hkI:(k:Int)<(n:Int):=by omega
 obtain⟨g,o,rfl,hg,hc⟩:=h (by omega);obtain⟨g',o',rfl,hg',hc'⟩:=hcr (by omega);have d0:=hc k (by omega);have d1:=hc' k (by omega);obtain⟨y0,y1⟩:=hy;obtain⟨z0,z1⟩:=hz;clear hc hc' h hcr;generalize l.getD k 0=y at *
 generalize c.getD k 0=z at *
 have hb:Below w.heap.size w (w.alloc (.cells #[.int .i64 0,.int .i64 0] 114)):=(Below.refl _ _).alloc (Nat.le_refl _) _;have y2:y<=16:=by omega
 go_enter Tryz.func199,Tryz.ntmps199;have HC:∀A:Array Value,(w.alloc (.cells A 114)).drew.cell? ⟨g,o+k,none⟩=some (.int .i64 y)/\(w.alloc (.cells A 114)).drew.cell? ⟨g',o'+k,none⟩=some (.int .i64 z):=fun A=>by
  have hb:Below w.heap.size w (w.alloc (.cells A 114)):=(Below.refl _ _).alloc (Nat.le_refl _) _;exact⟨(hb.cell (p:=⟨g,o+k,none⟩) hg).trans d0,(hb.cell (p:=⟨g',o'+k,none⟩) hg').trans d1⟩
 go_wp2_with fail
 go_region_held3 (fun W=>W.cell? ⟨g,o+k,none⟩=some (.int .i64 y)/\W.cell? ⟨g',o'+k,none⟩=some (.int .i64 z)) (first|exact HC _|assumption) (first|(go_at_call 219;refine(jN _ _ _ z0 z1 y0 y2).mono ?_;rintro e x1 ⟨rfl,hx⟩;subst hx))
 go_wp2;exact bodyPost_ret (v:=.agg #[.int .i64 (rv y.toNat z.toNat:Nat),.int .i64 y]) (by simp[results,Tryz.results199,go_sem]) rfl ⟨rfl,((Below.refl _ _).alloc (Nat.le_refl _) _).drew⟩
end Go.Proofs.YtbacpebljannfaaGreatDoor.Lit
namespace Go.Proofs.YtbacpebljannfaaGreatDoor.Dist
open Go.Proofs.YtbacpebljannfaaGreatDoor
open Go.RowKit Corb
theorem jd(w:World)(vl vc vs:Value)(m:Nat->Nat)(t:TypeId):dt (w.alloc (.cells (aM vl vc vs m).toArray t)) w.heap.size vl vc vs m:=by
 refine dt.of_range ?_ (fun o=>cW w _ _ o) (by simp);intro j v hv;rw[Nat.zero_add,cell_of_row _ _ _ _ t (0,0) (heap_alloc_new w _)];simpa using hv
theorem bookPut_any(a ac:Option Addr)(cap n cc k:Nat)(vs:Value)(m:Nat->Nat)(C:Array Value)(l c:List Int)(w:World)(hC:C=(aM (.slice a n cap) (.slice ac n cc) vs m).toArray)(hn:l.length=n)(hnc:c.length=n)(h:aZ w a l)(hcr:aZ w ac c)(hk:k<n)(hm:n<=300) :
  Calls Tryz.prog 175 #[.agg C,.int .i64 (k:Int)] w fun e w'=>e = .returned (.agg #[.int .i64 (btI (c.getD k 0) (l.getD k 0)),.int .i64 (l.getD k 0)])/\Below w.heap.size w w':=by
 have e0:C[0]?=some (.slice a n cap):=by subst hC;rfl
 have e1:C[1]?=some (.slice ac n cc):=by subst hC;rfl
 have hmI:(n:Int)<=300:=by omega
 have hkI:(k:Int)<(n:Int):=by omega
 clear hC;obtain⟨g,o,rfl,hg,hc⟩:=h (by omega);obtain⟨g',o',rfl,hg',hc'⟩:=hcr (by omega);have d0:=hc k (by omega);have d1:=hc' k (by omega);have hb:Below w.heap.size w ((w.alloc (.cells C 134)).alloc (.cells #[.int .i64 0,.int .i64 0] 114)):=((Below.refl _ _).alloc (Nat.le_refl _) _).alloc (by simp) _;have r0:((w.alloc (.cells C 134)).alloc (.cells #[.int .i64 0,.int .i64 0] 114)).cell? ⟨w.heap.size+1,0,none⟩=some (.int .i64 0):=by
  have:=cell_of_row ((w.alloc (.cells C 134)).alloc (.cells #[.int .i64 0,.int .i64 0] 114)) (w.heap.size+1) 0 #[.int .i64 0,.int .i64 0] 114 (0,0) (heap_alloc2_new w _ _);rw[this];rfl
 have r1:((w.alloc (.cells C 134)).alloc (.cells #[.int .i64 0,.int .i64 0] 114)).cell? ⟨w.heap.size+1,1,none⟩=some (.int .i64 0):=by
  have:=cell_of_row ((w.alloc (.cells C 134)).alloc (.cells #[.int .i64 0,.int .i64 0] 114)) (w.heap.size+1) 1 #[.int .i64 0,.int .i64 0] 114 (0,0) (heap_alloc2_new w _ _);rw[this];rfl
 have hs2:((w.alloc (.cells C 134)).alloc (.cells #[.int .i64 0,.int .i64 0] 114)).heap.size=w.heap.size+2:=by simp
 have HR:=af (And.intro r0 (And.intro r1 (And.intro hs2 hb)));clear hc hc' h hcr r0 r1 hs2 hb;generalize l.getD k 0=y at *
 generalize c.getD k 0=z at *
 go_enter Tryz.func175,Tryz.ntmps175;go_wp2_with fail;refine(fN _ _ _).mono ?_;rintro e x1 ⟨rfl,hb1⟩;obtain⟨r0,r1,hs2,hb⟩:=ae HR;have q0:=(hb1.cell (p:=⟨w.heap.size+1,0,none⟩) (by rw[hs2];exact Nat.lt_succ_self _)).trans r0;have q1:=(hb1.cell (p:=⟨w.heap.size+1,1,none⟩) (by rw[hs2];exact Nat.lt_succ_self _)).trans r1;have f0:=hb1.frozen (p:=⟨w.heap.size+1,0,none⟩) (by rw[hs2];exact Nat.lt_succ_self _);have f1:=hb1.frozen (p:=⟨w.heap.size+1,1,none⟩) (by rw[hs2];exact Nat.lt_succ_self _);have hbn:=hb.trans (hb1.mono hb.size);clear HR r0 r1 hb hb1;go_wp2_with fail;exact bodyPost_ret (v:=.agg #[.int .i64 (btI z y),.int .i64 y]) (by simp[results,Tryz.results175,go_sem,q0,q1]) rfl ⟨rfl,ag (ag hbn (Nat.le_succ _) _) (Nat.le_succ _) _⟩
theorem l3Piece_any(a ac:Option Addr)(cap n cc k:Nat)(l c:List Int)(w:World)(hn:l.length=n)(hnc:c.length=n)(h:aZ w a l)(hcr:aZ w ac c)(hk:k<n)(hm:n<=300)(hy:0<=l.getD k 0/\l.getD k 0<=15)(hz:0<=c.getD k 0/\c.getD k 0<65536) :
  Calls Tryz.prog 199 #[.slice a n cap,.slice ac n cc,.int .i64 (k:Int)] w fun e w'=>e = .returned (.agg #[.int .i64 (rv (l.getD k 0).toNat (c.getD k 0).toNat:Nat),.int .i64 (l.getD k 0)])/\Below w.heap.size w w':=by
 have hmI:(n:Int)<=300:=by omega
 have hkI:(k:Int)<(n:Int):=by omega
 obtain⟨g,o,rfl,hg,hc⟩:=h (by omega);obtain⟨g',o',rfl,hg',hc'⟩:=hcr (by omega);have d0:=hc k (by omega);have d1:=hc' k (by omega);obtain⟨y0,y1⟩:=hy;obtain⟨z0,z1⟩:=hz;clear hc hc' h hcr;generalize l.getD k 0=y at *
 generalize c.getD k 0=z at *
 have hb:Below w.heap.size w (w.alloc (.cells #[.int .i64 0,.int .i64 0] 114)):=(Below.refl _ _).alloc (Nat.le_refl _) _;have y2:y<=16:=by omega
 go_enter Tryz.func199,Tryz.ntmps199;have HC:∀A:Array Value,(w.alloc (.cells A 114)).drew.cell? ⟨g,o+k,none⟩=some (.int .i64 y)/\(w.alloc (.cells A 114)).drew.cell? ⟨g',o'+k,none⟩=some (.int .i64 z):=fun A=>by
  have hb:Below w.heap.size w (w.alloc (.cells A 114)):=(Below.refl _ _).alloc (Nat.le_refl _) _;exact⟨(hb.cell (p:=⟨g,o+k,none⟩) hg).trans d0,(hb.cell (p:=⟨g',o'+k,none⟩) hg').trans d1⟩
 go_wp2_with fail
 go_region_held3 (fun W=>W.cell? ⟨g,o+k,none⟩=some (.int .i64 y)/\W.cell? ⟨g',o'+k,none⟩=some (.int .i64 z)) (first|exact HC _|assumption) (first|(go_at_call 219;refine(jN _ _ _ z0 z1 y0 y2).mono ?_;rintro e x1 ⟨rfl,hx⟩;subst hx))
 go_wp2;exact bodyPost_ret (v:=.agg #[.int .i64 (rv y.toNat z.toNat:Nat),.int .i64 y]) (by simp[results,Tryz.results199,go_sem]) rfl ⟨rfl,((Below.refl _ _).alloc (Nat.le_refl _) _).drew⟩
end Go.Proofs.YtbacpebljannfaaGreatDoor.Dist
namespace Go.Proofs.YtbacpebljannfaaGreatDoor.Len
open Go.Proofs.YtbacpebljannfaaGreatDoor
open Go.RowKit Corb
theorem jd(w:World)(vl vc vs:Value)(m:Nat->Nat)(t:TypeId):dt (w.alloc (.cells (aM vl vc vs m).toArray t)) w.heap.size vl vc vs m:=by
 refine dt.of_range ?_ (fun o=>cW w _ _ o) (by simp);intro j v hv;rw[Nat.zero_add,cell_of_row _ _ _ _ t (0,0) (heap_alloc_new w _)];simpa using hv
theorem bookPut_any(a ac:Option Addr)(cap n cc k:Nat)(vs:Value)(m:Nat->Nat)(C:Array Value)(l c:List Int)(w:World)(hC:C=(aM (.slice a n cap) (.slice ac n cc) vs m).toArray)(hn:l.length=n)(hnc:c.length=n)(h:aZ w a l)(hcr:aZ w ac c)(hk:k<n)(hm:n<=300) :
  Calls Tryz.prog 149 #[.agg C,.int .i64 (k:Int)] w fun e w'=>e = .returned (.agg #[.int .i64 (btI (c.getD k 0) (l.getD k 0)),.int .i64 (l.getD k 0)])/\Below w.heap.size w w':=by
 have e0:C[0]?=some (.slice a n cap):=by subst hC;rfl
 have e1:C[1]?=some (.slice ac n cc):=by subst hC;rfl
 have hmI:(n:Int)<=300:=by omega
 have hkI:(k:Int)<(n:Int):=by omega
 clear hC;obtain⟨g,o,rfl,hg,hc⟩:=h (by omega);obtain⟨g',o',rfl,hg',hc'⟩:=hcr (by omega);have d0:=hc k (by omega);have d1:=hc' k (by omega);have hb:Below w.heap.size w ((w.alloc (.cells C 199)).alloc (.cells #[.int .i64 0,.int .i64 0] 114)):=((Below.refl _ _).alloc (Nat.le_refl _) _).alloc (by simp) _;have r0:((w.alloc (.cells C 199)).alloc (.cells #[.int .i64 0,.int .i64 0] 114)).cell? ⟨w.heap.size+1,0,none⟩=some (.int .i64 0):=by
  have:=cell_of_row ((w.alloc (.cells C 199)).alloc (.cells #[.int .i64 0,.int .i64 0] 114)) (w.heap.size+1) 0 #[.int .i64 0,.int .i64 0] 114 (0,0) (heap_alloc2_new w _ _);rw[this];rfl
 have r1:((w.alloc (.cells C 199)).alloc (.cells #[.int .i64 0,.int .i64 0] 114)).cell? ⟨w.heap.size+1,1,none⟩=some (.int .i64 0):=by
  have:=cell_of_row ((w.alloc (.cells C 199)).alloc (.cells #[.int .i64 0,.int .i64 0] 114)) (w.heap.size+1) 1 #[.int .i64 0,.int .i64 0] 114 (0,0) (heap_alloc2_new w _ _);rw[this];rfl
 have hs2:((w.alloc (.cells C 199)).alloc (.cells #[.int .i64 0,.int .i64 0] 114)).heap.size=w.heap.size+2:=by simp
 have HR:=af (And.intro r0 (And.intro r1 (And.intro hs2 hb)));clear hc hc' h hcr r0 r1 hs2 hb;generalize l.getD k 0=y at *
 generalize c.getD k 0=z at *
 go_enter Tryz.func149,Tryz.ntmps149;go_wp2_with fail;refine(fN _ _ _).mono ?_;rintro e x1 ⟨rfl,hb1⟩;obtain⟨r0,r1,hs2,hb⟩:=ae HR;have q0:=(hb1.cell (p:=⟨w.heap.size+1,0,none⟩) (by rw[hs2];exact Nat.lt_succ_self _)).trans r0;have q1:=(hb1.cell (p:=⟨w.heap.size+1,1,none⟩) (by rw[hs2];exact Nat.lt_succ_self _)).trans r1;have f0:=hb1.frozen (p:=⟨w.heap.size+1,0,none⟩) (by rw[hs2];exact Nat.lt_succ_self _);have f1:=hb1.frozen (p:=⟨w.heap.size+1,1,none⟩) (by rw[hs2];exact Nat.lt_succ_self _);have hbn:=hb.trans (hb1.mono hb.size);clear HR r0 r1 hb hb1;go_wp2_with fail;exact bodyPost_ret (v:=.agg #[.int .i64 (btI z y),.int .i64 y]) (by simp[results,Tryz.results149,go_sem,q0,q1]) rfl ⟨rfl,ag (ag hbn (Nat.le_succ _) _) (Nat.le_succ _) _⟩
theorem l3Piece_any(a ac:Option Addr)(cap n cc k:Nat)(l c:List Int)(w:World)(hn:l.length=n)(hnc:c.length=n)(h:aZ w a l)(hcr:aZ w ac c)(hk:k<n)(hm:n<=300)(hy:0<=l.getD k 0/\l.getD k 0<=15)(hz:0<=c.getD k 0/\c.getD k 0<65536) :
  Calls Tryz.prog 199 #[.slice a n cap,.slice ac n cc,.int .i64 (k:Int)] w fun e w'=>e = .returned (.agg #[.int .i64 (rv (l.getD k 0).toNat (c.getD k 0).toNat:Nat),.int .i64 (l.getD k 0)])/\Below w.heap.size w w':=by
 have hmI:(n:Int)<=300:=by omega
 have hkI:(k:Int)<(n:Int):=by omega
 obtain⟨g,o,rfl,hg,hc⟩:=h (by omega);obtain⟨g',o',rfl,hg',hc'⟩:=hcr (by omega);have d0:=hc k (by omega);have d1:=hc' k (by omega);obtain⟨y0,y1⟩:=hy;obtain⟨z0,z1⟩:=hz;clear hc hc' h hcr;generalize l.getD k 0=y at *
 generalize c.getD k 0=z at *
 have hb:Below w.heap.size w (w.alloc (.cells #[.int .i64 0,.int .i64 0] 114)):=(Below.refl _ _).alloc (Nat.le_refl _) _;have y2:y<=16:=by omega
 go_enter Tryz.func199,Tryz.ntmps199;have HC:∀A:Array Value,(w.alloc (.cells A 114)).drew.cell? ⟨g,o+k,none⟩=some (.int .i64 y)/\(w.alloc (.cells A 114)).drew.cell? ⟨g',o'+k,none⟩=some (.int .i64 z):=fun A=>by
  have hb:Below w.heap.size w (w.alloc (.cells A 114)):=(Below.refl _ _).alloc (Nat.le_refl _) _;exact⟨(hb.cell (p:=⟨g,o+k,none⟩) hg).trans d0,(hb.cell (p:=⟨g',o'+k,none⟩) hg').trans d1⟩
 go_wp2_with fail
 go_region_held3 (fun W=>W.cell? ⟨g,o+k,none⟩=some (.int .i64 y)/\W.cell? ⟨g',o'+k,none⟩=some (.int .i64 z)) (first|exact HC _|assumption) (first|(go_at_call 219;refine(jN _ _ _ z0 z1 y0 y2).mono ?_;rintro e x1 ⟨rfl,hx⟩;subst hx))
 go_wp2;exact bodyPost_ret (v:=.agg #[.int .i64 (rv y.toNat z.toNat:Nat),.int .i64 y]) (by simp[results,Tryz.results199,go_sem]) rfl ⟨rfl,((Below.refl _ _).alloc (Nat.le_refl _) _).drew⟩
end Go.Proofs.YtbacpebljannfaaGreatDoor.Len
