/- Walk of the law: files that were laid are there. -/
import Derived.Test.YtgmfehnnebkaoaaGreatDoorM44
import Derived.Test.YtgmfehnnebkaoaaGreatDoorM40
set_option maxRecDepth 100000
set_option linter.unusedSimpArgs false
set_option linter.unusedVariables false
set_option maxHeartbeats 3200000
namespace Go.Proofs.YtgmfehnnebkaoaaGreatDoor
open Go.RowKit Corb
theorem lZ(t l:ByteArray)(w:World) :
  CD 19 #[.agg #[.string t,.string l],.agg #[.string t,.string l]] w (.bool true):=by
 obtain⟨c,a,b⟩:=yE w #[.string t,.string l] #[.string t,.string l] 37 37;have e:=a.cells (n:=2) rfl;have p2:=b.cells (n:=2) rfl;have d:=af c;clear c a b;go_enter Tryz.func19,Tryz.ntmps19;go_wp2;go_ret;exact⟨rfl,ae d⟩
theorem D7{t:ByteArray}{l:List En}(h:dE t=some l):uN t ⟨#[]⟩ = .tuple #[rR t ⟨#[]⟩,.bool true]:=by
 unfold uN;rw[Fo (by decide +kernel),h];rfl
theorem JM(a:Option Addr)(len cap:Nat)(zs:List Int)(m:Int)(w:World)(w0:qS .u8 w a len cap zs)(hm:w.cell? ⟨2,0,none⟩=some (.int .i64 m))(hg:jH w)(hO:cJ w)(hP:xl w) :
  CD 5 #[.slice a len cap] w (.bool true):=by
 obtain⟨⟨z,u⟩,hc,h⟩:=qM w0;have K:=af (rQ a len cap z w u hc h);have f:=af (fun W (hb:Below w.heap.size w W)=>a0b ((hb.cell (p:=⟨2,0,none⟩) (World.block_lt_of_cell? _ _ hm)).trans hm) (a0b (hg.later hb) (hO.later hb)));unfold maxLen at h;have aa:=af (fun W (hb:Below w.heap.size w W)=>hP.later hb);clear w0 u hm hg hO hP;by_cases hl:(len:Int)<=1048576
 .
  go_enter Tryz.func5,Tryz.ntmps5;go_wp2_with fail;refine(ae K).mono ?_;rintro e w1 ⟨⟨v,l,rfl,O,h7,hT,a2⟩,L⟩;obtain⟨n,hn⟩:∃n,l.length=n:=⟨_,rfl⟩;obtain⟨ga,tc,rfl,a4,_⟩:=bu.formN hn O;have T:=af hn;have an:=af O;have b:=af L;have HT:=af (pL hn hT);have a5:(n:Int)<=7:=by omega
  have a3:(n:Int)<=(tc:Int):=by omega
  have CN:=af (rW ga tc l n hn m w1 (cm hn O) (by omega) a3 (ae HT) (ae f w1 (ah (ae b) (a0c _ _))).1 (ae f w1 (ah (ae b) (a0c _ _))).2.1 (ae f w1 (ah (ae b) (a0c _ _))).2.2);have CM:=af (fun W (k:Below w1.heap.size w1 W)=>sd ga tc l n hn W (cm hn (O.later k (a0a _))) (by omega) (ae HT));clear O L hT h7 hn K a2 h hc;obtain⟨S,hS⟩:∃x,cj l=x:=⟨_,rfl⟩;rw[hS]at CN CM;have HS:=af hS;clear hS;generalize r:ci l=zb at *
  have ab:Hid (Below w1.heap.size w1 w1):=a0c _ _;go_wp2_with fail;refine(ae CN).mono ?_;rintro e w2 ⟨rfl,M⟩;have F:=af (ah (ae ab) M);clear M;have s:=af ((ae F).alloc (ae F).size (.cells #[.string S,.string ⟨#[]⟩] 37));have P:=af (aC w2 #[.string S,.string ⟨#[]⟩] 37);go_wp2_with fail;refine(ae CM _ (ae s)).mono ?_;rintro e w3 ⟨rfl,B⟩;have G:=af (ah (ae s) B);have P3:=af ((ae P).later B (ae P).1);clear B P CN CM;have H:=af ((ae G).alloc (ae G).size (.cells #[.string S,.string ⟨#[]⟩] 37));have Q:=af (aC w3 #[.string S,.string ⟨#[]⟩] 37);have j:=af ((ae P3).later ((a0c _ _).alloc (a0a _) (.cells #[.string S,.string ⟨#[]⟩] 37)) (ae P3).1);have E:=(ae j).cells (n:=2) rfl;have pB:=(ae Q).cells (n:=2) rfl;go_wp2_with fail;refine(lZ S ⟨#[]⟩ _).mono ?_;rintro e w4 ⟨rfl,o⟩;have c:=af (ah (ae H) o);have U:=af ((ae j).later o (ae j).1);have Q4:=af ((ae Q).later o (ae Q).1);clear o P3 j Q E pB;have E:=(ae U).cells (n:=2) rfl;have pB:=(ae Q4).cells (n:=2) rfl;cases zb
  . clear r;go_wp2_with fail;refine(lZ S ⟨#[]⟩ _).mono ?_;rintro e w5 ⟨rfl,d⟩;have i:=af (ah (ae c) d);clear d;have y:=af (ah (ae b) (ae i));go_wp2;go_ret;exact⟨rfl,ae y⟩
  .
   have HZ:=af r;have Y:=Cg r;rw[ae HS]at Y;have a6:S.size<=4000:=by rw[←ae HS];exact hH l
   have R:=af (qj S ⟨#[]⟩ m w4 (by omega) (by decide) (ae f w4 (ah (ae b) (ae c))).1 (ae f w4 (ah (ae b) (ae c))).2.1 (ae f w4 (ah (ae b) (ae c))).2.2 (ae aa w4 (ah (ae b) (ae c))));have Z:=af (fun W (k:Below w1.heap.size w1 W)=>db S m W (by omega) (ae f W (ah (ae b) k)).1 (ae f W (ah (ae b) k)).2.1 (ae f W (ah (ae b) k)).2.2);have CK:=af (fun W (k:Below w1.heap.size w1 W)=>tC S ⟨#[]⟩ m W (by omega) (ae f W (ah (ae b) k)).1 (ae f W (ah (ae b) k)).2.1 (ae f W (ah (ae b) k)).2.2);rw[D7 Y]at R;unfold rR at R;rw[Y]at Z CK;clear Y r Q4 pB;go_wp2_with fail;refine(ae R).mono ?_;rintro e w5 ⟨rfl,d⟩;have i:=af (ah (ae c) d);have P5:=af ((ae U).later d (ae U).1);clear d U E R;have t:=af ((ae i).alloc (ae i).size (.cells #[.string S,.string ⟨#[]⟩] 37));have X:=af (aC w5 #[.string S,.string ⟨#[]⟩] 37);have A:=af ((ae P5).later ((a0c _ _).alloc (a0a _) (.cells #[.string S,.string ⟨#[]⟩] 37)) (ae P5).1);have pX:=(ae X).cells (n:=2) rfl;go_wp2_with fail;refine(ae Z _ (ae t)).mono ?_;rintro e w6 ⟨⟨v6,rfl,D⟩,q⟩;obtain⟨g6,c6,rfl,_,_⟩:=bu.formN (ae T) D;have ao:=af D;have I:=af (ah (ae t) q);have V:=af ((ae A).later q (ae A).1);have X6:=af ((ae X).later q (ae X).1);clear q D P5 A X pX Z;have E:=(ae V).cells (n:=2) rfl;go_wp2_with fail;refine(ae CK _ (ae I)).mono ?_;rintro e w7 ⟨rfl,g⟩;have a0:=af ((ae ao).later g (a0a _));have ac:=af (ah (ae I) g);have P7:=af ((ae V).later g (ae V).1);have X7:=af ((ae X6).later g (ae X6).1);clear g V X6 E CK;have E:=(ae P7).cells (n:=2) rfl;have pX:=(ae X7).cells (n:=2) rfl;go_wp2_with fail;refine(lZ S ⟨#[]⟩ _).mono ?_;rintro e w8 ⟨rfl,C⟩;have a1:=af ((ae a0).later C (a0a _));have J:=af (ah (ae ac) C);clear C P7 X7 E pX;have CB:=af (qV g6 ga c6 tc n l w8 (ae T) (cm (ae T) (ae a1)) (cm (ae T) ((ae an).later (ae J) (a0a _))) (by omega));go_wp2_with fail;refine(ae CB).mono ?_;rintro e w9 ⟨rfl,N⟩;have ad:=af (ah (ae J) N);clear N;have y:=af (ah (ae b) (ae ad));go_wp2;go_ret;exact⟨rfl,ae y⟩
 . go_enter Tryz.func5,Tryz.ntmps5;go_wp2;go_ret;exact⟨rfl,a0c _ _⟩
end Go.Proofs.YtgmfehnnebkaoaaGreatDoor
