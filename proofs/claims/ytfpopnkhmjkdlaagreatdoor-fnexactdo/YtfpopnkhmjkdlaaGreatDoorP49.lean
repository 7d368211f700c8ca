import Derived.Test.YtfpopnkhmjkdlaaGreatDoorP48
set_option maxRecDepth 20000
set_option maxHeartbeats 16000000
namespace Go.Proofs.YtfpopnkhmjkdlaaGreatDoor
open Go.ChangeShapes Go.WideShapes Go.ChangeAt Go.RowKit
theorem Xec:(Tryz.prog.info? 66).map (·.size)=some 5:=by kernel_rfl
theorem Xbw:(Tryz.prog.info? 37).map (·.size)=some 5:=by kernel_rfl
def AcB (w:World) (B:Nat) (T:TypeId) (q:Ac) (p x:Value):Prop:=w.heap[B]?=some (.cells (acA q.kind q.rune p q.mark x) T (0,0))
theorem AcB.below {w w':World} {B:Nat} {T:TypeId} {q:Ac} {p x:Value} (h:AcB w B T q p x) (hb:Below w.heap.size w w'):AcB w' B T q p x :=
 (hb.block B ((Array.getElem?_eq_some_iff.1 h).1)).trans h
theorem AcB.lt {w:World} {B:Nat} {T:TypeId} {q:Ac} {p x:Value} (h:AcB w B T q p x):B<w.heap.size:=(Array.getElem?_eq_some_iff.1 h).1
abbrev zO:Obj:=Obj.cells #[.int .i64 0,.slice none 0 0,.int .i64 0,.slice none 0 0,.int .i64 0,.int .i64 0,.int .i64 0,.int .i64 0,.bool false,.bool false,.bool false,.int .i64 0,.int .i64 0,.bool false,.bool false,.bool false,.bool false,.int .i64 0,.int .i64 0,.int .i64 0,.int .i64 0,.bool false,.bool false,.bool false,.slice none 0 0,.int .i64 0,.slice none 0 0,.int .i64 0,.slice none 0 0,.string ⟨#[]⟩] 35
abbrev zL:List Value:=[.int .i64 0,.slice none 0 0,.int .i64 0,.slice none 0 0,.int .i64 0,.int .i64 0,.int .i64 0,.int .i64 0,.bool false,.bool false,.bool false,.int .i64 0,.int .i64 0,.bool false,.bool false,.bool false,.bool false,.int .i64 0,.int .i64 0,.int .i64 0,.int .i64 0,.bool false,.bool false,.bool false,.slice none 0 0,.int .i64 0,.slice none 0 0,.int .i64 0,.slice none 0 0,.string ⟨#[]⟩]
theorem AcB.grp {S:Nat->Prop} {w w':World} {B:Nat} {T:TypeId} {q:Ac} {p x:Value} (h:AcB w B T q p x) (hg:GrP S w w') (hne:¬ S B):AcB w' B T q p x:=(hg.2.2.2.2 B h.lt hne).trans h
theorem AcB.lowB {w w':World} {B C:Nat} {T:TypeId} {q:Ac} {p x:Value} (h:AcB w B T q p x) (hb:Below C w w') (hB:B<C):AcB w' B T q p x:=(hb.block B hB).trans h
theorem TeB.lowB {w w':World} {B C:Nat} {T:TypeId} {t:Te} {v:Tv} (h:TeB w B T t v) (hb:Below C w w') (hB:B<C):TeB w' B T t v:=by
 unfold TeB;rw [hb.block B hB]
 exact h
theorem Xeg {w:World} {ops:Array Oper} {rest:List Oper} {o:Oper} {a:Act} {Q:Exit->Act->World->Prop} {B:Nat} {q:Ac} {p x:Value} (hb:AcB w B 66 q p x) (hgd:Region.wanted o (yielded ops a.tmps)=true) (y:Operand)
  (ho:o.op=.load 66 y) (hx:a.eval y=.pointer (some ⟨B,0,none⟩))
  (h:wpList Tryz.prog ops Q rest (a.put o.dst (.agg (acA q.kind q.rune p q.mark x))) w):wpList Tryz.prog ops Q (o::rest) a w :=
 KX (cs:=acA q.kind q.rune p q.mark x) hgd 66 y ho Tryz.underlying66 rfl Xec hb hx h
theorem Xef {w:World} {ops:Array Oper} {rest:List Oper} {o:Oper} {a:Act} {Q:Exit->Act->World->Prop} {B:Nat} {q:Ac} {p x:Value} (hb:AcB w B 37 q p x) (hgd:Region.wanted o (yielded ops a.tmps)=true) (y:Operand)
  (ho:o.op=.load 37 y) (hx:a.eval y=.pointer (some ⟨B,0,none⟩))
  (h:wpList Tryz.prog ops Q rest (a.put o.dst (.agg (acA q.kind q.rune p q.mark x))) w):wpList Tryz.prog ops Q (o::rest) a w :=
 KX (cs:=acA q.kind q.rune p q.mark x) hgd 37 y ho Tryz.underlying37 rfl Xbw hb hx h
theorem JQ {W:World} {B:Nat} {q:Ac} {p x:Value} (hb:AcB W B 66 q p x) (a:Act) (o:Oper) (y:Operand) (ho:o.op=.load 66 y) (hx:a.eval y=.pointer (some ⟨B,0,none⟩)) :
  (execOp a.eval o).run Tryz.prog W=.ok (.value (.agg (acA q.kind q.rune p q.mark x))) W:=by
 unfold execOp;simp only [ho,hx,Instr.loadAt,Instr.sureAddr,Sem.run_bind,Sem.run_pure,Result.andThen_ok,run_loadVar_row W B 66 66 (acA q.kind q.rune p q.mark x) (0,0) _ hb Tryz.underlying66 rfl Xec]
theorem XcO {W:World} {B:Nat} {q:Ac} {p x:Value} (hb:AcB W B 37 q p x) (a:Act) (o:Oper) (y:Operand) (ho:o.op=.load 37 y) (hx:a.eval y=.pointer (some ⟨B,0,none⟩)) :
  (execOp a.eval o).run Tryz.prog W=.ok (.value (.agg (acA q.kind q.rune p q.mark x))) W:=by
 unfold execOp;simp only [ho,hx,Instr.loadAt,Instr.sureAddr,Sem.run_bind,Sem.run_pure,Result.andThen_ok,run_loadVar_row W B 37 37 (acA q.kind q.rune p q.mark x) (0,0) _ hb Tryz.underlying37 rfl Xbw]
theorem YS {o:Oper} {a:Act} {w:World} {K:Act->World->Prop} {Q:Exit->Act->World->Prop} (x y:Operand) (ho:o.op=.store 35 x y) {B:Nat} {old:List Value} {t:Te} {v:Tv} (h1:(Xg t v).toList.all (·.oneCell')=true) (hB:TB w B old) (hl:old.length=(Xg t v).size) (hx:a.eval x=.pointer (some ⟨B,0,none⟩)) (hy:a.eval y=.agg (Xg t v))
  (h:∀ w',w.grownBy w' (some B)->TeB w' B 35 t v->w'.heap.size=w.heap.size->K (a.put o.dst undef) w'):o.wp Tryz.prog a w K Q :=
 wp_store_row 35 x y ho B (Xg t v) hx hy 35 old.toArray hB Xr (by simpa using hl) (by rw [<- Array.all_toList];exact h1) (h _ (Jb w B (Xg t v)) (setRow_heap w B old.toArray (Xg t v) 35 (0,0) hB) (by simp))
theorem XS.ownB {w:World} {base:Nat} {L:List (Value×List Int)} (h:XS w base L) {p:Value×List Int} (hp:p∈L):∀ g,p.1.ownBlock=some g->base<=g/\g<w.heap.size:=fun g e=>(h.1 p hp).lt g e
theorem Xan (w:World) (hS:Xo w) (t:Te) (v:Tv) (h:SlT w t v) (hm:SzT maxLen t) (hf:t.fe.size<=maxLen) (q:Ac) (pv tv:Value) (hp:SlN w pv q.params) (ht:SlN w tv q.text) (hpl:q.params.length<=maxLen) (htl:q.text.length<=maxLen) :
  Calls Tryz.prog 6 #[teV t v,.agg (acA q.kind q.rune pv q.mark tv)] w fun e w'=>e=.returned (.bool true)/\Below w.heap.size w w':=by
 have hbd:=Xf9 t q;have hbR:=XhI t q;have hsp:=fun u px tx W h1 h2 h3 h4 l1 l2 h5=>XdY t u q px tx W h1 h2 h3 h4 l1 l2 h5
 have him:=fun u px tx W hS h1 h2 h3 h4 l1 l2 h5=>Xde t u q px tx W hS h1 h2 h3 h4 l1 l2 h5
 obtain ⟨R,hR⟩:∃ R,Hid (doR t q=R):=⟨_,rfl⟩;simp only [hR.out] at hbd hbR hsp him;clear hR;have hzz:=fun W h=>XfB t v W h hm hf
 have hza:=fun n W h1 h2 (hn:n<=1048576)=>XbR q pv tv n W h1 h2 hpl htl (by omega)
 have hb1:=Xd w (Obj.cells (Xg t v) 65);have hb2:=Xd (w.alloc (Obj.cells (Xg t v) 65)) (Obj.cells (acA q.kind q.rune pv q.mark tv) 66);have hX:=(TeB.new w 65 t v).below hb2
 have hY:AcB ((w.alloc (Obj.cells (Xg t v) 65)).alloc (Obj.cells (acA q.kind q.rune pv q.mark tv) 66)) (w.heap.size+1) 66 q pv tv:=by
  have h0:=heap_alloc_new (w.alloc (Obj.cells (Xg t v) 65)) (Obj.cells (acA q.kind q.rune pv q.mark tv) 66);rw [show (w.alloc (Obj.cells (Xg t v) 65)).heap.size=w.heap.size+1 by simp] at h0
  exact h0
 have hb0:=hb1.trans (hb2.mono hb1.size);obtain ⟨w1,hw1⟩:∃ w1,w1=(w.alloc (Obj.cells (Xg t v) 65)).alloc (Obj.cells (acA q.kind q.rune pv q.mark tv) 66):=⟨_,rfl⟩;rw [<- hw1] at hb0 hX hY
 replace hw1:=(show Hid _ from hw1);clear hb1 hb2;have hto:=fun W h hz=>XcV t v W h hz
 have htoA:=fun W h1 h2 l1 l2=>XaM q pv tv W h1 h2 l1 l2
 have heq0:=fun u u2 W h h2 hz=>Qf t u u2 W h h2 hz
 have heqR:=fun u u2 W h h2=>Qf R u u2 W h h2 hbR
 have heqA:∀ p1 t1 p2 t2 W,SlI W p1 q.params->SlI W t1 q.text->SlI W p2 q.params->SlI W t2 q.text->q.params.length<=1073741824->q.text.length<=1073741824->Calls Tryz.prog 33 #[.agg (acA q.kind q.rune p1 q.mark t1),.agg (acA q.kind q.rune p2 q.mark t2)] W fun e w'=>e=.returned (.bool true)/\Below W.heap.size W w':=fun p1 t1 p2 t2 W a b c d e f=>Xaw q p1 t1 p2 t2 W a b c d e f
 have hmkR:=fun u vg vo base W h hb=>Q5 R u vg vo base W h hb (by have:=hbd.1;omega) (by have:=hbd.2.1;omega) (by have:=hbd.2.2.1;omega) (by have:=hbd.2.2.2.1;omega) (by have:=hbd.2.2.2.2.1;omega) (by have:=hbd.2.2.2.2.2.1;omega) (by have:=hbd.2.2.2.2.2.2;omega)
 have hhdR:=fun u W h=>Xdd R u W h hbd.1 hbd.2.1 (by have:=hbd.2.2.1;omega) (by have:=hbd.2.2.2.1;omega) (by have:=hbd.2.2.2.2.1;omega) (by have:=hbd.2.2.2.2.2.1;omega) (by have:=hbd.2.2.2.2.2.2;omega)
 have hn:¬ (((1+mkN R:Nat):Int)<0):=by omega
 generalize ((1+mkN R:Nat):Int)=mR at *;clear hm hf hbR hbd hpl htl;unfold teV at *;go_enter Tryz.func6,Tryz.ntmps6;refine wp_seq_k (fun K hK=>?_);have hH:=(show Hid _ from hK);clear hK;go_wp2;refine hH.out _ _ ?_;rw [<- hw1.out]
 clear hH hw1;go_wp2_with (refine Xeh hX (by rfl) _ (by rfl) (by rfl) ?_);refine (hzz _ (h.below hb0)).mono ?_;rintro e w2 ⟨z,rfl,hz,hb,hzl⟩;have kb:=hb0.trans (hb.mono hb0.size);replace hX:=hX.below hb;replace hY:=hY.below hb;clear hb hb0 hzz
 by_cases hzn:z<0
 case pos =>
  go_wp2;go_ret;exact ⟨rfl,kb⟩
 obtain ⟨hsz,hsum⟩:=hz.resolve_left hzn;have hmkX:=fun u vg vo base W h hb=>Q5 t u vg vo base W h hb (by omega) (by omega) hsz.1 hsz.2.2.1 (by omega) (by omega) (by omega)
 have hmN:mkN t<=134217000:=by unfold mkN;omega
 obtain ⟨zn,rfl⟩:∃ zn:Nat,z=(zn:Int):=⟨z.toNat,by omega⟩;have hzn2:¬ ((zn:Int)<0):=by omega
 have hza2:=hza zn w2 (hp.below kb).l.sl (ht.below kb).l.sl (by omega);clear hz hsum hza hzn;replace hsz:=(show Hid _ from hsz);go_wp2_with (refine Xeg hY (by rfl) _ (by rfl) (by rfl) ?_);refine hza2.mono ?_;rintro e w2a ⟨rfl,hb⟩;replace kb:=kb.trans (hb.mono kb.size);replace hX:=hX.below hb;replace hY:=hY.below hb;clear hb hza2
 by_cases hyn:szP q.params.length q.text.length zn<0
 case pos =>
  have e4:=Xer hyn;rw [e4]
  clear hyn;go_wp2;go_ret;exact ⟨rfl,kb⟩
 obtain ⟨zk,e4,hzk⟩:=XcU hyn;rw [e4]
 have hzk2:¬ ((zk:Int)<0):=by omega
 have lp:q.params.length<=1048576:=by omega
 have lt':q.text.length<=1048576:=by omega
 have hnX:¬ (((1+mkN t+q.params.length+q.text.length:Nat):Int)<0):=by omega
 have hmkA:=fun p x base R W h hb=>Q1 q p x (1+mkN t) base R W h hb (by omega) lp lt'
 generalize ((1+mkN t+q.params.length+q.text.length:Nat):Int)=mX at *;generalize ((1+mkN t:Nat):Int)=mY at *;have hnX2:decide (mX<0)=false:=decide_eq_false hnX
 clear hyn e4 hzk hmN
  -- the specification's answer
 have hbX:w.heap.size<w2a.heap.size:=hX.lt;have hSb:∀ W,Below w2a.heap.size w2a W->TeB W w.heap.size 65 t v/\AcB W (w.heap.size+1) 66 q pv tv/\Below w2a.heap.size w2a W:=fun W k=>⟨hX.below k,hY.below k,k⟩
 go_wp2
 rename_i K8 hK8
 have hcut8:∀ (j4 j7 j8 j9 j10 j11 j12 j13 j14 j15 j16 j17 j18 j19 j20 j21 j22 j23 j24 j25 j26 j27 j28 j29 j30 j31 j32 j33 j34 j35 j36 j37 j38 j39 j40 j41 j42 j43 j44 j45 j46 j47 j48 j49 j50 j51 j52 j53 j54 j55 j56 j57 j58 j59 j60 j61 j62 j63 j64 j65 j66 j67 j68 j69 j70 j71 j72 j73 j74 j75 j76 j77 j78 j79 j80 j81 j82 j83 j84 j85 j86 j87 j88 j89 j90 j91:Value) (B6:Nat) (v4:Tv) (W:World),Below w.heap.size w W->TeB W w.heap.size 65 t v->AcB W (w.heap.size+1) 66 q pv tv->TeB W B6 35 R v4->SlT W R v4->K8 { tmps:=#[.agg (Xg t v),.agg (acA q.kind q.rune pv q.mark tv),.pointer (some ⟨w.heap.size,0,none⟩),.pointer (some ⟨w.heap.size+1,0,none⟩),j4,.int .i64 (zk:Int),.pointer (some ⟨B6,0,none⟩),j7,j8,j9,j10,j11,j12,j13,j14,j15,j16,j17,j18,j19,j20,j21,j22,j23,j24,j25,j26,j27,j28,j29,j30,j31,j32,j33,j34,j35,j36,j37,j38,j39,j40,j41,j42,j43,j44,j45,j46,j47,j48,j49,j50,j51,j52,j53,j54,j55,j56,j57,j58,j59,j60,j61,j62,j63,j64,j65,j66,j67,j68,j69,j70,j71,j72,j73,j74,j75,j76,j77,j78,j79,j80,j81,j82,j83,j84,j85,j86,j87,j88,j89,j90,j91],defers:=[] } W:=by
  intro j4 j7 j8 j9 j10 j11 j12 j13 j14 j15 j16 j17 j18 j19 j20 j21 j22 j23 j24 j25 j26 j27 j28 j29 j30 j31 j32 j33 j34 j35 j36 j37 j38 j39 j40 j41 j42 j43 j44 j45 j46 j47 j48 j49 j50 j51 j52 j53 j54 j55 j56 j57 j58 j59 j60 j61 j62 j63 j64 j65 j66 j67 j68 j69 j70 j71 j72 j73 j74 j75 j76 j77 j78 j79 j80 j81 j82 j83 j84 j85 j86 j87 j88 j89 j90 j91 B6 v4 W4 kb hX hY A0 s0;clear hSb hbX;apply hK8
  clear hK8 hsp;have hX0:=hX.lt;have hY0:=hY.lt
  have hk0:=kb.size
    -- the arguments' copies
  go_wp2_with (refine Xeh hX (by rfl) _ (by rfl) (by rfl) ?_);refine (hto _ (h.below kb) hsz.out).mono ?_;rintro e w5 ⟨v5,rfl,ho,hb⟩;obtain ⟨b1,b2,b3,hrg⟩:=ho;obtain ⟨vg5,vo5,o1⟩:=RgT.own (show RgT w5 W4.heap.size b1 b2 b3 t v5 from hrg);replace kb:=kb.trans (hb.mono kb.size);replace hX:=hX.below hb;replace hY:=hY.below hb;have K0:Below W4.heap.size W4 w5:=hb;have hon:=o1.sl.one;clear hb hrg;have hal:=Xd w5 zO;have hZ:=TB.new w5 zL
  go_wp2_with (first
   | (refine Yh (cs:=Xg t v5) (by rfl) 35 _ _ (by rfl) Xr (by rfl) hon hZ (by rfl) (by rfl) ?_;intro W5 hg hA hzs;have hbW:Below w5.heap.size w5 W5:=hal.grown hg hal.size (fun k e=>by cases e;exact Nat.le_refl _);have A1:TeB W5 w5.heap.size 35 t v5:=hA;clear hA hg hzs hal hZ hon)
   | (refine Xeg (hY.below hbW) (by rfl) _ (by rfl) (by rfl) ?_))
  replace kb:=kb.trans (hbW.mono kb.size);replace hX:=hX.below hbW;replace hY:=hY.below hbW;replace K0:=K0.trans (hbW.mono K0.size);replace o1:=o1.below hbW;have hW45:W4.heap.size<=W5.heap.size:=K0.size;have hw5l:w5.heap.size<W5.heap.size:=A1.lt;have hbd1:∀ k,StT vg5 vo5 v5 k->W4.heap.size<=k/\k<W5.heap.size:=fun k c=>StT.bd o1 c
  clear hbW;refine (htoA _ (hp.below kb).l.sl (ht.below kb).l.sl (by omega) (by omega)).mono ?_;rintro e w5a ⟨p5,x5,rfl,oA,hb⟩;replace kb:=kb.trans (hb.mono kb.size);replace hX:=hX.below hb;replace hY:=hY.below hb;replace K0:=K0.trans (hb.mono K0.size);replace o1:=o1.below hb;replace A1:=A1.below hb;have zA:=hb.size;obtain ⟨p5a,p5n,p5c,hp5⟩:=oA.head.shape;obtain ⟨x5a,x5n,x5c,hx5⟩:=oA.tail.head.shape;simp only at hp5 hx5;subst hp5;subst hx5;clear hb;have hal:=Xd w5a (Obj.cells #[.int .i64 0,.int .i64 0,.slice none 0 0,.int .i64 0,.slice none 0 0] 37);have hZ:=heap_alloc_new w5a (Obj.cells #[.int .i64 0,.int .i64 0,.slice none 0 0,.int .i64 0,.slice none 0 0] 37)
  go_wp2_with (first
   | (refine Yh (cs:=acA q.kind q.rune (.slice p5a p5n p5c) q.mark (.slice x5a x5n x5c)) (by rfl) 37 _ _ (by rfl) Xbw (by rfl) (by rfl) hZ (by rfl) (by rfl) ?_;intro Wq hg hA hzs;have hbW:Below w5a.heap.size w5a Wq:=hal.grown hg hal.size (fun k e=>by cases e;exact Nat.le_refl _);have A3:AcB Wq w5a.heap.size 37 q (.slice p5a p5n p5c) (.slice x5a x5n x5c):=hA;clear hA hg hzs hal hZ)
   | (refine Yk (A1.below hbW) (by rfl) _ (by rfl) (by rfl) ?_)
   | (refine Xef A3 (by rfl) _ (by rfl) (by rfl) ?_))
  replace kb:=kb.trans (hbW.mono kb.size);replace hX:=hX.below hbW;replace hY:=hY.below hbW;replace K0:=K0.trans (hbW.mono K0.size);replace o1:=o1.below hbW;replace A1:=A1.below hbW;replace oA:=oA.below hbW;have hw5q:w5a.heap.size<Wq.heap.size:=A3.lt;have hbdP:∀ g,(Value.slice p5a p5n p5c).ownBlock=some g->W5.heap.size<=g/\g<Wq.heap.size:=fun g e=>oA.head.lt g e
  have hbdX:∀ g,(Value.slice x5a x5n x5c).ownBlock=some g->W5.heap.size<=g/\g<Wq.heap.size:=fun g e=>oA.tail.head.lt g e
  clear hbW;replace hbdP:=(show Hid _ from hbdP)
  replace hbdX:=(show Hid _ from hbdX)
    -- the program's answer
  refine (him v5 _ _ _ (hS.below kb hS.lt) o1.sl hsz.out (SlN.of_own oA.head) (SlN.of_own oA.tail.head) lp lt' (fun g e=>(oA.head.lt g e).2)).mono ?_;rintro e w6 ⟨v6,vg6,vo6,rfl,o2,hb⟩;replace kb:=kb.trans (hb.mono kb.size);replace hX:=hX.below hb;replace hY:=hY.below hb;replace K0:=K0.trans (hb.mono K0.size);replace o1:=o1.below hb;replace A1:=A1.below hb;replace A3:=A3.below hb;replace oA:=oA.below hb;have z5:=hb.size;have hon:=o2.sl.one;clear hb;have hal:=Xd w6 zO;have hZ:=TB.new w6 zL
  go_wp2_with (first
   | (refine Yh (cs:=Xg R v6) (by rfl) 35 _ _ (by rfl) Xr (by rfl) hon hZ (by rfl) (by rfl) ?_;intro W6 hg hA hzs;have hbW:Below w6.heap.size w6 W6:=hal.grown hg hal.size (fun k e=>by cases e;exact Nat.le_refl _);have A2:TeB W6 w6.heap.size 35 R v6:=hA;clear hA hg hzs hal hZ hon)
   | (refine Yk (A0.below (K0.trans (hbW.mono K0.size))) (by rfl) _ (by rfl) (by rfl) ?_)
   | (refine Yk A2 (by rfl) _ (by rfl) (by rfl) ?_))
  replace kb:=kb.trans (hbW.mono kb.size);replace hX:=hX.below hbW;replace hY:=hY.below hbW;replace K0:=K0.trans (hbW.mono K0.size);replace o1:=o1.below hbW;replace A1:=A1.below hbW;replace A3:=A3.below hbW;replace oA:=oA.below hbW;replace o2:=o2.below hbW;have z6:=hbW.size;clear hbW;refine (heqR _ _ _ o2.sl (s0.below K0)).mono ?_;rintro e w7 ⟨rfl,hb⟩;replace kb:=kb.trans (hb.mono kb.size);replace hX:=hX.below hb;replace hY:=hY.below hb;replace K0:=K0.trans (hb.mono K0.size);replace o1:=o1.below hb;replace A1:=A1.below hb;replace A3:=A3.below hb;replace oA:=oA.below hb;replace o2:=o2.below hb;replace A2:=A2.below hb;have z7:=hb.size
  clear hb
    -- the screen XgZ
  have hAd:=A1.below (bdr w7);have hXd:=hX.below (bdr w7);go_wp2
  rename_i K9 hK9
  replace hK9:=(show Hid _ from hK9);refine wp_region_noPanic ?_;refine wp_region_held_drew (S:=(fun W=>TeB W w5.heap.size 35 t v5/\TeB W w.heap.size 65 t v/\Below w7.heap.size w7 W)) (by kernel_rfl) ⟨hAd,hXd,bdr w7⟩ (fun Hh=>?_);refine' wpAnyH_take (i:=0) (v:=.agg (Xg t v5)) rfl (by kernel_rfl) (by kernel_rfl) (by kernel_rfl) (fun _ _ _ h=>h) (Or.inl ⟨by rfl,?hy5⟩) Hh ?hr5
  case hy5=>(intro W hSw;exact XcP hSw.1 _ _ _ rfl rfl)
  simp only [Act.put,ZA,ZB,ZC,ZD,ZE];refine' wpAnyH_take (i:=1) (v:=.agg (Xg t v)) rfl (by kernel_rfl) (by kernel_rfl) (by kernel_rfl) (fun _ _ _ h=>h) (Or.inl ⟨by rfl,?hy6⟩) Hh ?hr6
  case hy6=>(intro W hSw;exact JR hSw.2.1 _ _ _ rfl rfl)
  refine rd 2 fun K hK=>?_
  go_simp;refine (hto _ (h.below (kb.trans ((bdr w7).mono kb.size))) hsz.out).mono ?_;rintro e wa ⟨va,rfl,hoa,hba⟩;have hba2:=(bdr w7).trans hba;have hAa:=hAd.below hba;have hXa:=hXd.below hba;go_wp2_with fail;refine hK.out _ _ ⟨hAa,hXa,hba2⟩ (fun Hh=>?_);clear hK K;refine rd 3 fun K hK=>?_
  go_simp;refine (heq0 v5 va _ (o1.sl.below hba2) hoa.sl hsz.out).mono ?_;rintro e wb ⟨rfl,hbb⟩;have hkb:=hba2.trans (hbb.mono hba2.size);have hAb:=hAa.below hbb;have hXb:=hXa.below hbb;go_wp2_with fail;refine hK.out _ _ ⟨hAb,hXb,hkb⟩ (fun Hh=>?_);clear hK K;refine tk 4 ?_;simp only [Act.put,ZA,ZB,ZC,ZD,ZE,ZF];refine dn ?_;refine hK9.out _ _ ?_;replace kb:=kb.trans (hkb.mono kb.size);replace hX:=hXb;replace hY:=hY.below hkb;replace K0:=K0.trans (hkb.mono K0.size);replace o1:=o1.below hkb;replace A1:=hAb;replace A3:=A3.below hkb;replace oA:=oA.below hkb;replace o2:=o2.below hkb;replace A2:=A2.below hkb;have zb:=hkb.size
  clear hK9 hAa hXa hAb hXb hAd hXd hkb hbb hba hba2 hoa Hh heq0
    -- the action XgZ
  have hAd:=A3.below (bdr wb);have hYd:=hY.below (bdr wb);go_wp2
  rename_i K9 hK9
  replace hK9:=(show Hid _ from hK9);refine wp_region_noPanic ?_;refine wp_region_held_drew (S:=(fun W=>AcB W w5a.heap.size 37 q (.slice p5a p5n p5c) (.slice x5a x5n x5c)/\AcB W (w.heap.size+1) 66 q pv tv/\Below wb.heap.size wb W)) (by kernel_rfl) ⟨hAd,hYd,bdr wb⟩ (fun Hh=>?_);refine' wpAnyH_take (i:=0) (v:=.agg (acA q.kind q.rune (.slice p5a p5n p5c) q.mark (.slice x5a x5n x5c))) rfl (by kernel_rfl) (by kernel_rfl) (by kernel_rfl) (fun _ _ _ h=>h) (Or.inl ⟨by rfl,?hy7⟩) Hh ?hr7
  case hy7=>(intro W hSw;exact XcO hSw.1 _ _ _ rfl rfl)
  simp only [Act.put,ZA,ZB,ZC,ZD,ZE];refine' wpAnyH_take (i:=1) (v:=.agg (acA q.kind q.rune pv q.mark tv)) rfl (by kernel_rfl) (by kernel_rfl) (by kernel_rfl) (fun _ _ _ h=>h) (Or.inl ⟨by rfl,?hy8⟩) Hh ?hr8
  case hy8=>(intro W hSw;exact JQ hSw.2.1 _ _ _ rfl rfl)
  refine rd 2 fun K hK=>?_
  go_simp;refine (htoA _ (hp.below (kb.trans ((bdr wb).mono kb.size))).l.sl (ht.below (kb.trans ((bdr wb).mono kb.size))).l.sl (by omega) (by omega)).mono ?_;rintro e wc ⟨pc,xc,rfl,hoc,hba⟩;have hba2:=(bdr wb).trans hba;have hAa:=hAd.below hba;have hYa:=hYd.below hba;go_wp2_with fail;refine hK.out _ _ ⟨hAa,hYa,hba2⟩ (fun Hh=>?_);clear hK K;refine rd 3 fun K hK=>?_
  go_simp;refine (heqA _ _ _ _ _ (Yi.below oA.head hba2).sl (Yi.below oA.tail.head hba2).sl hoc.head.sl hoc.tail.head.sl (by omega) (by omega)).mono ?_;rintro e wd ⟨rfl,hbb⟩;have hkb:=hba2.trans (hbb.mono hba2.size);have hAb:=hAa.below hbb;have hYb:=hYa.below hbb;go_wp2_with fail;refine hK.out _ _ ⟨hAb,hYb,hkb⟩ (fun Hh=>?_);clear hK K;refine tk 4 ?_;simp only [Act.put,ZA,ZB,ZC,ZD,ZE,ZF];refine dn ?_;refine hK9.out _ _ ?_;replace kb:=kb.trans (hkb.mono kb.size);replace hX:=hX.below hkb;replace hY:=hYb;replace K0:=K0.trans (hkb.mono K0.size);replace o1:=o1.below hkb;replace A1:=A1.below hkb;replace A3:=hAb;replace oA:=oA.below hkb;replace o2:=o2.below hkb;replace A2:=A2.below hkb;have zd:=hkb.size
  clear hK9 hAa hYa hAb hYb hAd hYd hkb hbb hba hba2 hoc Hh heqA
    -- the arguments are marked
  go_wp2_with (refine Yk A1 (by rfl) _ (by rfl) (by rfl) ?_);refine (hmkX _ _ _ _ _ o1 (by have:=K0.size;omega)).mono ?_;rintro e w8 ⟨rfl,_,hgp⟩;have hbm:=hgp.to_below (fun k c=>(hbd1 k c).1) K0.size;replace A2:TeB w8 w6.heap.size 35 R v6:=Xj.grp A2 hgp (StT.not o1 A2 (by decide) (by decide));replace o2:=o2.grp hgp (fun k c=>by have:=(hbd1 k c).2;omega);replace oA:=oA.grp hgp (fun p hp g e c=>by have:=hbd1 g c;have:=(oA.ownB hp g e).1;omega);replace A3:=A3.grp hgp (fun c=>by have:=hbd1 _ c;omega);have hwW:w.heap.size<=W4.heap.size:=hk0;replace kb:=kb.trans (hbm.mono hwW);replace hX:=hX.lowB hbm hX0;replace hY:=hY.lowB hbm hY0;replace K0:=K0.trans hbm;have z8:=hgp.size;clear hgp hbm hmkX o1 A1 hbd1;go_wp2_with (refine Xef A3 (by rfl) _ (by rfl) (by rfl) ?_);refine (hmkA _ _ _ _ _ oA (by have:=K0.size;omega)).mono ?_;rintro e w8a ⟨rfl,_,hgv⟩;have hgp:=GrP.of_grv hgv;have hbdA:∀ k,((Value.slice p5a p5n p5c).ownBlock=some k\/(Value.slice x5a x5n x5c).ownBlock=some k)->W5.heap.size<=k/\k<Wq.heap.size:=fun k c=>c.elim (hbdP.out k) (hbdX.out k)
  have hbm:=hgp.to_below (B:=W4.heap.size) (fun k c=>by have:=hbdA k c;omega) K0.size;replace A2:TeB w8a w6.heap.size 35 R v6:=Xj.grp A2 hgp (fun c=>by have:=hbdA _ c;omega);replace o2:=o2.grp hgp (fun k c=>(hbdA k c).2);replace kb:=kb.trans (hbm.mono hwW);replace hX:=hX.lowB hbm hX0;replace hY:=hY.lowB hbm hY0;replace K0:=K0.trans hbm;have z8a:=hgp.size
  clear hgp hgv hbm hmkA oA A3 hbdA hbdP hbdX
    -- the answer XgZ
  go_wp2_with (first
   | (refine Yk A2 (by rfl) _ (by rfl) (by rfl) ?_)
   | (refine Yk (A0.below K0) (by rfl) _ (by rfl) (by rfl) ?_))
  refine (heqR _ _ _ o2.sl (s0.below K0)).mono ?_;rintro e w9 ⟨rfl,hb⟩;replace kb:=kb.trans (hb.mono kb.size);replace hX:=hX.below hb;replace hY:=hY.below hb;replace K0:=K0.trans (hb.mono K0.size);replace o2:=o2.below hb;replace A2:=A2.below hb;have z9:=hb.size
  clear hb
    -- the answer is marked
  have hbd2:∀ k,StT vg6 vo6 v6 k->Wq.heap.size<=k:=fun k c=>(StT.bd o2 c).1
  go_wp2_with (refine Yk A2 (by rfl) _ (by rfl) (by rfl) ?_);refine (hmkR _ _ _ _ _ o2 (by omega)).mono ?_;rintro e w10 ⟨rfl,o3,hgp⟩;have hbm:=hgp.to_below (B:=W4.heap.size) (fun k c=>by have:=hbd2 k c;omega) K0.size;replace A2:TeB w10 w6.heap.size 35 R v6:=Xj.grp A2 hgp (StT.not o2 A2 (by decide) (by decide));replace kb:=kb.trans (hbm.mono hwW);replace hX:=hX.lowB hbm hX0;replace hY:=hY.lowB hbm hY0;replace K0:=K0.trans hbm;have sm:=o3.sl;clear hgp hbm hmkR o2 o3 hbd2;go_wp2_with (refine Yk A2 (by rfl) _ (by rfl) (by rfl) ?_);refine (hhdR _ _ sm).mono ?_;rintro e w11 ⟨rfl,hb⟩;replace kb:=kb.trans (hb.mono kb.size);replace hX:=hX.below hb;replace hY:=hY.below hb;replace K0:=K0.trans (hb.mono K0.size);replace A2:=A2.below hb;replace sm:=sm.below hb
  clear hb
    -- the function is called anew
  have A0w:=A0.below K0;have s0w:=s0.below K0;have hSb:∀ W,Below w11.heap.size w11 W->TeB W w.heap.size 65 t v/\AcB W (w.heap.size+1) 66 q pv tv/\Below w11.heap.size w11 W:=fun W k=>⟨hX.below k,hY.below k,k⟩
  clear A0 s0 K0 hX0 hY0 hk0 hW45 hw5l zA hw5q z5 z6 z7 zb zd z8 z8a z9 hwW;go_wp2
  rename_i K31 hK31
  have hcut31:∀ (j0 j1 j2 j3 j4 j5 j7 j8 j10 j12 j14 j15 j16 j17 j18 j19 j20 j21 j22 j23 j24 j25 j26 j27 j28 j29 j30 j31 j32 j33 j34 j35 j36 j37 j38 j39 j40 j41 j42 j43 j44 j45 j46 j47 j48 j49 j50 j51 j52 j53 j54 j55 j56 j57 j58 j59 j60 j61 j62 j63 j64 j65 j66 j67 j68 j69 j70 j71 j72 j73 j74 j75 j76 j77 j78 j79 j80 j81 j82 j83 j84 j85 j86 j87 j88 j89 j90 j91:Value) (B13:Nat) (v13:Tv) (W:World),Below w11.heap.size w11 W->TeB W B13 35 R v13->SlT W R v13->K31 { tmps:=#[j0,j1,j2,j3,j4,j5,.pointer (some ⟨B6,0,none⟩),j7,j8,.pointer (some ⟨w6.heap.size,0,none⟩),j10,.int .i64 mR,j12,.pointer (some ⟨B13,0,none⟩),j14,j15,j16,j17,j18,j19,j20,j21,j22,j23,j24,j25,j26,j27,j28,j29,j30,j31,j32,j33,j34,j35,j36,j37,j38,j39,j40,j41,j42,j43,j44,j45,j46,j47,j48,j49,j50,j51,j52,j53,j54,j55,j56,j57,j58,j59,j60,j61,j62,j63,j64,j65,j66,j67,j68,j69,j70,j71,j72,j73,j74,j75,j76,j77,j78,j79,j80,j81,j82,j83,j84,j85,j86,j87,j88,j89,j90,j91],defers:=[] } W:=by
   intro j0 j1 j2 j3 j4 j5 j7 j8 j10 j12 j14 j15 j16 j17 j18 j19 j20 j21 j22 j23 j24 j25 j26 j27 j28 j29 j30 j31 j32 j33 j34 j35 j36 j37 j38 j39 j40 j41 j42 j43 j44 j45 j46 j47 j48 j49 j50 j51 j52 j53 j54 j55 j56 j57 j58 j59 j60 j61 j62 j63 j64 j65 j66 j67 j68 j69 j70 j71 j72 j73 j74 j75 j76 j77 j78 j79 j80 j81 j82 j83 j84 j85 j86 j87 j88 j89 j90 j91 B13 v13 W13 k13 A6 s6;clear hSb;apply hK31
   clear hK31;replace A2:=A2.below k13;replace A0w:=A0w.below k13;replace s0w:=s0w.below k13;replace sm:=sm.below k13;replace kb:=kb.trans (k13.mono kb.size);clear k13
   go_wp2_with (first
    | (refine Yk A6 (by rfl) _ (by rfl) (by rfl) ?_)
    | (refine Yk A0w (by rfl) _ (by rfl) (by rfl) ?_))
   refine (heqR _ _ _ s6 s0w).mono ?_;rintro e w14 ⟨rfl,hb⟩;replace kb:=kb.trans (hb.mono kb.size);replace A2:=A2.below hb;replace sm:=sm.below hb;clear hb;go_wp2_with (refine Yk A2 (by rfl) _ (by rfl) (by rfl) ?_);refine (hhdR _ _ sm).mono ?_;rintro e w15 ⟨rfl,hb⟩;replace kb:=kb.trans (hb.mono kb.size);clear hb;go_wp2;go_ret;exact ⟨rfl,kb⟩
  refine wp_region_noPanic ?_;refine wp_region_held_drew (S:=(fun W=>TeB W w.heap.size 65 t v/\AcB W (w.heap.size+1) 66 q pv tv/\Below w11.heap.size w11 W)) (by kernel_rfl) (hSb _ (bdr w11)) (fun Hh=>?_);refine' wpAnyH_take (i:=0) (v:=.agg (Xg t v)) rfl (by kernel_rfl) (by kernel_rfl) (by kernel_rfl) (fun _ _ _ h=>h) (Or.inl ⟨by rfl,?hy3⟩) Hh ?hr3
  case hy3=>(intro W hSw;exact JR hSw.1 _ _ _ rfl rfl)
  simp only [Act.put,ZA,ZB,ZC,ZD,ZE];refine' wpAnyH_take (i:=2) (v:=.agg (acA q.kind q.rune pv q.mark tv)) rfl (by kernel_rfl) (by kernel_rfl) (by kernel_rfl) (fun _ _ _ h=>h) (Or.inl ⟨by rfl,?hy4⟩) Hh ?hr4
  case hy4=>(intro W hSw;exact JQ hSw.2.1 _ _ _ rfl rfl)
  simp only [Act.put,ZA,ZB,ZC,ZD,ZE,ZF];have k2d:=bdr w11;generalize w11.drew=wd at *;refine rd2 1 5 (fun K hK=>?_) fun K hK=>?_
  ·go_simp
   refine (hto _ (h.below (kb.trans (k2d.mono kb.size))) hsz.out).mono ?_;rintro e w12 ⟨v12,rfl,ho,hb⟩;have ho3:=ho.sl;clear ho;have k3:=k2d.trans (hb.mono k2d.size);clear hb;go_wp2_with fail;refine hK.out _ _ (hSb _ k3) (fun Hh=>?_);clear hK K;refine rd2 3 5 (fun K hK=>?_) fun K hK=>?_
   ·go_simp
    refine (htoA _ (hp.below (kb.trans (k3.mono kb.size))).l.sl (ht.below (kb.trans (k3.mono kb.size))).l.sl (by omega) (by omega)).mono ?_;rintro e w12a ⟨p3,x3,rfl,hoA,hb⟩;replace hoA:=hoA.low (show 0<=_ from Nat.zero_le _);have k3a:=k3.trans (hb.mono k3.size);replace ho3:=ho3.below hb;clear hb;go_wp2_with fail;refine hK.out _ _ (hSb _ k3a) (fun Hh=>?_);clear hK K;refine rd2 4 5 (fun K hK=>?_) fun K hK=>?_
    ·go_simp
     refine (him v12 p3 x3 _ (hS.below (kb.trans (k3a.mono kb.size)) hS.lt) ho3 hsz.out (SlN.of_own hoA.head) (SlN.of_own hoA.tail.head) lp lt' (fun g e=>(hoA.head.lt g e).2)).mono ?_;rintro e w13 ⟨v13,vg13,vo13,rfl,os4,hb⟩;have hone4:=os4.sl.one;clear ho3 hoA;have k4:=k3a.trans (hb.mono k3a.size);clear hb;go_wp2_with fail;refine hK.out _ _ (hSb _ k4) (fun Hh=>?_);clear hK K;refine rd 5 fun K hK=>?_
     go_simp;have hal:=Xd w13 zO;have hZa:=TB.new w13 zL;have hkA:=k4.trans (hal.mono k4.size);refine hK.out _ _ (hSb _ hkA) (fun Hh=>?_);clear hK K
     (try simp only [Act.put,ZA,ZB,ZC,ZD,ZE,ZF])
     obtain ⟨Wa,hWa⟩:∃ Wa,Wa=(w13.alloc zO):=⟨_,rfl⟩;obtain ⟨Ba,hBa⟩:∃ Ba,Ba=w13.heap.size:=⟨_,rfl⟩;replace os4:=os4.below hal;rw [<- hWa] at hal hZa hkA Hh os4 ⊢
     rw [<- hBa] at hZa ⊢
     have hBge:w11.heap.size<=Ba:=by rw [hBa];exact k4.size
     clear hWa hBa hal;refine rdo 6 fun K hK=>?_
     refine YS _ _ (by rfl) hone4 hZa (by rfl) (by rfl) (by rfl) ?_;intro We hg hA hzs;have hkE:=hkA.grown hg hkA.size (fun k e=>by cases e;exact hBge);refine hK.out _ _ (hSb We hkE) (fun Hh=>?_);clear hK K
     (try simp only [Act.put])
     refine dn ?_;exact hcut31 _ _ _ _ _ _ _ _ _ _ _ _ _ _ _ _ _ _ _ _ _ _ _ _ _ _ _ _ _ _ _ _ _ _ _ _ _ _ _ _ _ _ _ _ _ _ _ _ _ _ _ _ _ _ _ _ _ _ _ _ _ _ _ _ _ _ _ _ _ _ _ _ _ _ _ _ _ _ _ _ _ _ _ _ _ _ _ _ Ba v13 We hkE hA (os4.grown hg hZa (by decide) (by decide) (by decide)).sl
    ·go_simp
     have hal:=Xd w12a zO;have hZa:=TB.new w12a zL;have hkA:=k3a.trans (hal.mono k3a.size);refine hK.out _ _ (hSb _ hkA) (fun Hh=>?_);clear hK K
     (try simp only [Act.put,ZA,ZB,ZC,ZD,ZE,ZF])
     obtain ⟨Wa,hWa⟩:∃ Wa,Wa=(w12a.alloc zO):=⟨_,rfl⟩;obtain ⟨Ba,hBa⟩:∃ Ba,Ba=w12a.heap.size:=⟨_,rfl⟩;replace ho3:=ho3.below hal;replace hoA:=hoA.below hal;rw [<- hWa] at hal hZa hkA Hh ho3 hoA ⊢
     rw [<- hBa] at hZa ⊢
     have hBge:w11.heap.size<=Ba:=by rw [hBa];exact k3a.size
     clear hWa hBa hal;refine rd 4 fun K hK=>?_
     go_simp;refine (him v12 p3 x3 _ (hS.below (kb.trans (hkA.mono kb.size)) hS.lt) ho3 hsz.out (SlN.of_own hoA.head) (SlN.of_own hoA.tail.head) lp lt' (fun g e=>(hoA.head.lt g e).2)).mono ?_;rintro e w13 ⟨v13,vg13,vo13,rfl,os4,hb⟩;have hone4:=os4.sl.one;clear ho3 hoA;have k4:=hkA.trans (hb.mono hkA.size);replace hZa:=hZa.below hb;clear hb;go_wp2_with fail;refine hK.out _ _ (hSb _ k4) (fun Hh=>?_);clear hK K;refine rdo 6 fun K hK=>?_
     refine YS _ _ (by rfl) hone4 hZa (by rfl) (by rfl) (by rfl) ?_;intro We hg hA hzs;have hkE:=k4.grown hg k4.size (fun k e=>by cases e;exact hBge);refine hK.out _ _ (hSb We hkE) (fun Hh=>?_);clear hK K
     (try simp only [Act.put])
     refine dn ?_;exact hcut31 _ _ _ _ _ _ _ _ _ _ _ _ _ _ _ _ _ _ _ _ _ _ _ _ _ _ _ _ _ _ _ _ _ _ _ _ _ _ _ _ _ _ _ _ _ _ _ _ _ _ _ _ _ _ _ _ _ _ _ _ _ _ _ _ _ _ _ _ _ _ _ _ _ _ _ _ _ _ _ _ _ _ _ _ _ _ _ _ Ba v13 We hkE hA (os4.grown hg hZa (by decide) (by decide) (by decide)).sl
   ·go_simp
    have hal:=Xd w12 zO;have hZa:=TB.new w12 zL;have hkA:=k3.trans (hal.mono k3.size);refine hK.out _ _ (hSb _ hkA) (fun Hh=>?_);clear hK K
    (try simp only [Act.put,ZA,ZB,ZC,ZD,ZE,ZF])
    obtain ⟨Wa,hWa⟩:∃ Wa,Wa=(w12.alloc zO):=⟨_,rfl⟩;obtain ⟨Ba,hBa⟩:∃ Ba,Ba=w12.heap.size:=⟨_,rfl⟩;replace ho3:=ho3.below hal;rw [<- hWa] at hal hZa hkA Hh ho3 ⊢
    rw [<- hBa] at hZa ⊢
    have hBge:w11.heap.size<=Ba:=by rw [hBa];exact k3.size
    clear hWa hBa hal;refine rd 3 fun K hK=>?_
    go_simp;refine (htoA _ (hp.below (kb.trans (hkA.mono kb.size))).l.sl (ht.below (kb.trans (hkA.mono kb.size))).l.sl (by omega) (by omega)).mono ?_;rintro e w12a ⟨p3,x3,rfl,hoA,hb⟩;replace hoA:=hoA.low (show 0<=_ from Nat.zero_le _);have k3a:=hkA.trans (hb.mono hkA.size);replace ho3:=ho3.below hb;replace hZa:=hZa.below hb;clear hb;go_wp2_with fail;refine hK.out _ _ (hSb _ k3a) (fun Hh=>?_);clear hK K;refine rd 4 fun K hK=>?_
    go_simp;refine (him v12 p3 x3 _ (hS.below (kb.trans (k3a.mono kb.size)) hS.lt) ho3 hsz.out (SlN.of_own hoA.head) (SlN.of_own hoA.tail.head) lp lt' (fun g e=>(hoA.head.lt g e).2)).mono ?_;rintro e w13 ⟨v13,vg13,vo13,rfl,os4,hb⟩;have hone4:=os4.sl.one;clear ho3 hoA;have k4:=k3a.trans (hb.mono k3a.size);replace hZa:=hZa.below hb;clear hb;go_wp2_with fail;refine hK.out _ _ (hSb _ k4) (fun Hh=>?_);clear hK K;refine rdo 6 fun K hK=>?_
    refine YS _ _ (by rfl) hone4 hZa (by rfl) (by rfl) (by rfl) ?_;intro We hg hA hzs;have hkE:=k4.grown hg k4.size (fun k e=>by cases e;exact hBge);refine hK.out _ _ (hSb We hkE) (fun Hh=>?_);clear hK K
    (try simp only [Act.put])
    refine dn ?_;exact hcut31 _ _ _ _ _ _ _ _ _ _ _ _ _ _ _ _ _ _ _ _ _ _ _ _ _ _ _ _ _ _ _ _ _ _ _ _ _ _ _ _ _ _ _ _ _ _ _ _ _ _ _ _ _ _ _ _ _ _ _ _ _ _ _ _ _ _ _ _ _ _ _ _ _ _ _ _ _ _ _ _ _ _ _ _ _ _ _ _ Ba v13 We hkE hA (os4.grown hg hZa (by decide) (by decide) (by decide)).sl
  ·go_simp
   have hal:=Xd wd zO;have hZa:=TB.new wd zL;have hkA:=k2d.trans (hal.mono k2d.size);refine hK.out _ _ (hSb _ hkA) (fun Hh=>?_);clear hK K
   (try simp only [Act.put,ZA,ZB,ZC,ZD,ZE,ZF])
   obtain ⟨Wa,hWa⟩:∃ Wa,Wa=(wd.alloc zO):=⟨_,rfl⟩;obtain ⟨Ba,hBa⟩:∃ Ba,Ba=wd.heap.size:=⟨_,rfl⟩;rw [<- hWa] at hal hZa hkA Hh ⊢
   rw [<- hBa] at hZa ⊢
   have hBge:w11.heap.size<=Ba:=by rw [hBa];exact k2d.size
   clear hWa hBa hal;refine rd 1 fun K hK=>?_
   go_simp;refine (hto _ (h.below (kb.trans (hkA.mono kb.size))) hsz.out).mono ?_;rintro e w12 ⟨v12,rfl,ho,hb⟩;have ho3:=ho.sl;clear ho;have k3:=hkA.trans (hb.mono hkA.size);replace hZa:=hZa.below hb;clear hb;go_wp2_with fail;refine hK.out _ _ (hSb _ k3) (fun Hh=>?_);clear hK K;refine rd 3 fun K hK=>?_
   go_simp;refine (htoA _ (hp.below (kb.trans (k3.mono kb.size))).l.sl (ht.below (kb.trans (k3.mono kb.size))).l.sl (by omega) (by omega)).mono ?_;rintro e w12a ⟨p3,x3,rfl,hoA,hb⟩;replace hoA:=hoA.low (show 0<=_ from Nat.zero_le _);have k3a:=k3.trans (hb.mono k3.size);replace ho3:=ho3.below hb;replace hZa:=hZa.below hb;clear hb;go_wp2_with fail;refine hK.out _ _ (hSb _ k3a) (fun Hh=>?_);clear hK K;refine rd 4 fun K hK=>?_
   go_simp;refine (him v12 p3 x3 _ (hS.below (kb.trans (k3a.mono kb.size)) hS.lt) ho3 hsz.out (SlN.of_own hoA.head) (SlN.of_own hoA.tail.head) lp lt' (fun g e=>(hoA.head.lt g e).2)).mono ?_;rintro e w13 ⟨v13,vg13,vo13,rfl,os4,hb⟩;have hone4:=os4.sl.one;clear ho3 hoA;have k4:=k3a.trans (hb.mono k3a.size);replace hZa:=hZa.below hb;clear hb;go_wp2_with fail;refine hK.out _ _ (hSb _ k4) (fun Hh=>?_);clear hK K;refine rdo 6 fun K hK=>?_
   refine YS _ _ (by rfl) hone4 hZa (by rfl) (by rfl) (by rfl) ?_;intro We hg hA hzs;have hkE:=k4.grown hg k4.size (fun k e=>by cases e;exact hBge);refine hK.out _ _ (hSb We hkE) (fun Hh=>?_);clear hK K
   (try simp only [Act.put])
   refine dn ?_;exact hcut31 _ _ _ _ _ _ _ _ _ _ _ _ _ _ _ _ _ _ _ _ _ _ _ _ _ _ _ _ _ _ _ _ _ _ _ _ _ _ _ _ _ _ _ _ _ _ _ _ _ _ _ _ _ _ _ _ _ _ _ _ _ _ _ _ _ _ _ _ _ _ _ _ _ _ _ _ _ _ _ _ _ _ _ _ _ _ _ _ Ba v13 We hkE hA (os4.grown hg hZa (by decide) (by decide) (by decide)).sl
 refine wp_region_noPanic ?_;refine wp_region_held_drew (S:=(fun W=>TeB W w.heap.size 65 t v/\AcB W (w.heap.size+1) 66 q pv tv/\Below w2a.heap.size w2a W)) (by kernel_rfl) (hSb _ (bdr w2a)) (fun Hh=>?_);refine' wpAnyH_take (i:=0) (v:=.agg (Xg t v)) rfl (by kernel_rfl) (by kernel_rfl) (by kernel_rfl) (fun _ _ _ h=>h) (Or.inl ⟨by rfl,?hy1⟩) Hh ?hr1
 case hy1=>(intro W hSw;exact JR hSw.1 _ _ _ rfl rfl)
 simp only [Act.put,ZA,ZB,ZC,ZD,ZE];refine' wpAnyH_take (i:=2) (v:=.agg (acA q.kind q.rune pv q.mark tv)) rfl (by kernel_rfl) (by kernel_rfl) (by kernel_rfl) (fun _ _ _ h=>h) (Or.inl ⟨by rfl,?hy2⟩) Hh ?hr2
 case hy2=>(intro W hSw;exact JQ hSw.2.1 _ _ _ rfl rfl)
 simp only [Act.put,ZA,ZB,ZC,ZD,ZE,ZF];have k2d:=bdr w2a;generalize w2a.drew=wd at *;refine rd2 1 5 (fun K hK=>?_) fun K hK=>?_
 ·go_simp
  refine (hto _ (h.below (kb.trans (k2d.mono kb.size))) hsz.out).mono ?_;rintro e w3 ⟨v3,rfl,ho,hb⟩;have ho3:=ho.sl;clear ho;have k3:=k2d.trans (hb.mono k2d.size);clear hb;go_wp2_with fail;refine hK.out _ _ (hSb _ k3) (fun Hh=>?_);clear hK K;refine rd2 3 5 (fun K hK=>?_) fun K hK=>?_
  ·go_simp
   refine (htoA _ (hp.below (kb.trans (k3.mono kb.size))).l.sl (ht.below (kb.trans (k3.mono kb.size))).l.sl (by omega) (by omega)).mono ?_;rintro e w3a ⟨p3,x3,rfl,hoA,hb⟩;replace hoA:=hoA.low (show 0<=_ from Nat.zero_le _);have k3a:=k3.trans (hb.mono k3.size);replace ho3:=ho3.below hb;clear hb;go_wp2_with fail;refine hK.out _ _ (hSb _ k3a) (fun Hh=>?_);clear hK K;refine rd2 4 5 (fun K hK=>?_) fun K hK=>?_
   ·go_simp
    refine (hsp v3 p3 x3 _ ho3 hsz.out (SlN.of_own hoA.head) (SlN.of_own hoA.tail.head) lp lt' (fun g e=>(hoA.head.lt g e).2)).mono ?_;rintro e w4 ⟨v4,vg4,vo4,rfl,os4,hb⟩;have hone4:=os4.sl.one;clear ho3 hoA;have k4:=k3a.trans (hb.mono k3a.size);clear hb;go_wp2_with fail;refine hK.out _ _ (hSb _ k4) (fun Hh=>?_);clear hK K;refine rd 5 fun K hK=>?_
    go_simp;have hal:=Xd w4 zO;have hZa:=TB.new w4 zL;have hkA:=k4.trans (hal.mono k4.size);refine hK.out _ _ (hSb _ hkA) (fun Hh=>?_);clear hK K
    (try simp only [Act.put,ZA,ZB,ZC,ZD,ZE,ZF])
    obtain ⟨Wa,hWa⟩:∃ Wa,Wa=(w4.alloc zO):=⟨_,rfl⟩;obtain ⟨Ba,hBa⟩:∃ Ba,Ba=w4.heap.size:=⟨_,rfl⟩;replace os4:=os4.below hal;rw [<- hWa] at hal hZa hkA Hh os4 ⊢
    rw [<- hBa] at hZa ⊢
    have hBge:w2a.heap.size<=Ba:=by rw [hBa];exact k4.size
    clear hWa hBa hal;refine rdo 6 fun K hK=>?_
    refine YS _ _ (by rfl) hone4 hZa (by rfl) (by rfl) (by rfl) ?_;intro We hg hA hzs;have hkE:=hkA.grown hg hkA.size (fun k e=>by cases e;exact hBge);refine hK.out _ _ (hSb We hkE) (fun Hh=>?_);clear hK K
    (try simp only [Act.put])
    refine dn ?_;exact hcut8 _ _ _ _ _ _ _ _ _ _ _ _ _ _ _ _ _ _ _ _ _ _ _ _ _ _ _ _ _ _ _ _ _ _ _ _ _ _ _ _ _ _ _ _ _ _ _ _ _ _ _ _ _ _ _ _ _ _ _ _ _ _ _ _ _ _ _ _ _ _ _ _ _ _ _ _ _ _ _ _ _ _ _ _ _ _ Ba v4 We (kb.trans (hkE.mono kb.size)) (hSb We hkE).1 (hSb We hkE).2.1 hA (os4.grown hg hZa (by decide) (by decide) (by decide)).sl
   ·go_simp
    have hal:=Xd w3a zO;have hZa:=TB.new w3a zL;have hkA:=k3a.trans (hal.mono k3a.size);refine hK.out _ _ (hSb _ hkA) (fun Hh=>?_);clear hK K
    (try simp only [Act.put,ZA,ZB,ZC,ZD,ZE,ZF])
    obtain ⟨Wa,hWa⟩:∃ Wa,Wa=(w3a.alloc zO):=⟨_,rfl⟩;obtain ⟨Ba,hBa⟩:∃ Ba,Ba=w3a.heap.size:=⟨_,rfl⟩;replace ho3:=ho3.below hal;replace hoA:=hoA.below hal;rw [<- hWa] at hal hZa hkA Hh ho3 hoA ⊢
    rw [<- hBa] at hZa ⊢
    have hBge:w2a.heap.size<=Ba:=by rw [hBa];exact k3a.size
    clear hWa hBa hal;refine rd 4 fun K hK=>?_
    go_simp;refine (hsp v3 p3 x3 _ ho3 hsz.out (SlN.of_own hoA.head) (SlN.of_own hoA.tail.head) lp lt' (fun g e=>(hoA.head.lt g e).2)).mono ?_;rintro e w4 ⟨v4,vg4,vo4,rfl,os4,hb⟩;have hone4:=os4.sl.one;clear ho3 hoA;have k4:=hkA.trans (hb.mono hkA.size);replace hZa:=hZa.below hb;clear hb;go_wp2_with fail;refine hK.out _ _ (hSb _ k4) (fun Hh=>?_);clear hK K;refine rdo 6 fun K hK=>?_
    refine YS _ _ (by rfl) hone4 hZa (by rfl) (by rfl) (by rfl) ?_;intro We hg hA hzs;have hkE:=k4.grown hg k4.size (fun k e=>by cases e;exact hBge);refine hK.out _ _ (hSb We hkE) (fun Hh=>?_);clear hK K
    (try simp only [Act.put])
    refine dn ?_;exact hcut8 _ _ _ _ _ _ _ _ _ _ _ _ _ _ _ _ _ _ _ _ _ _ _ _ _ _ _ _ _ _ _ _ _ _ _ _ _ _ _ _ _ _ _ _ _ _ _ _ _ _ _ _ _ _ _ _ _ _ _ _ _ _ _ _ _ _ _ _ _ _ _ _ _ _ _ _ _ _ _ _ _ _ _ _ _ _ Ba v4 We (kb.trans (hkE.mono kb.size)) (hSb We hkE).1 (hSb We hkE).2.1 hA (os4.grown hg hZa (by decide) (by decide) (by decide)).sl
  ·go_simp
   have hal:=Xd w3 zO;have hZa:=TB.new w3 zL;have hkA:=k3.trans (hal.mono k3.size);refine hK.out _ _ (hSb _ hkA) (fun Hh=>?_);clear hK K
   (try simp only [Act.put,ZA,ZB,ZC,ZD,ZE,ZF])
   obtain ⟨Wa,hWa⟩:∃ Wa,Wa=(w3.alloc zO):=⟨_,rfl⟩;obtain ⟨Ba,hBa⟩:∃ Ba,Ba=w3.heap.size:=⟨_,rfl⟩;replace ho3:=ho3.below hal;rw [<- hWa] at hal hZa hkA Hh ho3 ⊢
   rw [<- hBa] at hZa ⊢
   have hBge:w2a.heap.size<=Ba:=by rw [hBa];exact k3.size
   clear hWa hBa hal;refine rd 3 fun K hK=>?_
   go_simp;refine (htoA _ (hp.below (kb.trans (hkA.mono kb.size))).l.sl (ht.below (kb.trans (hkA.mono kb.size))).l.sl (by omega) (by omega)).mono ?_;rintro e w3a ⟨p3,x3,rfl,hoA,hb⟩;replace hoA:=hoA.low (show 0<=_ from Nat.zero_le _);have k3a:=hkA.trans (hb.mono hkA.size);replace ho3:=ho3.below hb;replace hZa:=hZa.below hb;clear hb;go_wp2_with fail;refine hK.out _ _ (hSb _ k3a) (fun Hh=>?_);clear hK K;refine rd 4 fun K hK=>?_
   go_simp;refine (hsp v3 p3 x3 _ ho3 hsz.out (SlN.of_own hoA.head) (SlN.of_own hoA.tail.head) lp lt' (fun g e=>(hoA.head.lt g e).2)).mono ?_;rintro e w4 ⟨v4,vg4,vo4,rfl,os4,hb⟩;have hone4:=os4.sl.one;clear ho3 hoA;have k4:=k3a.trans (hb.mono k3a.size);replace hZa:=hZa.below hb;clear hb;go_wp2_with fail;refine hK.out _ _ (hSb _ k4) (fun Hh=>?_);clear hK K;refine rdo 6 fun K hK=>?_
   refine YS _ _ (by rfl) hone4 hZa (by rfl) (by rfl) (by rfl) ?_;intro We hg hA hzs;have hkE:=k4.grown hg k4.size (fun k e=>by cases e;exact hBge);refine hK.out _ _ (hSb We hkE) (fun Hh=>?_);clear hK K
   (try simp only [Act.put])
   refine dn ?_;exact hcut8 _ _ _ _ _ _ _ _ _ _ _ _ _ _ _ _ _ _ _ _ _ _ _ _ _ _ _ _ _ _ _ _ _ _ _ _ _ _ _ _ _ _ _ _ _ _ _ _ _ _ _ _ _ _ _ _ _ _ _ _ _ _ _ _ _ _ _ _ _ _ _ _ _ _ _ _ _ _ _ _ _ _ _ _ _ _ Ba v4 We (kb.trans (hkE.mono kb.size)) (hSb We hkE).1 (hSb We hkE).2.1 hA (os4.grown hg hZa (by decide) (by decide) (by decide)).sl
 ·go_simp
  have hal:=Xd wd zO;have hZa:=TB.new wd zL;have hkA:=k2d.trans (hal.mono k2d.size);refine hK.out _ _ (hSb _ hkA) (fun Hh=>?_);clear hK K
  (try simp only [Act.put,ZA,ZB,ZC,ZD,ZE,ZF])
  obtain ⟨Wa,hWa⟩:∃ Wa,Wa=(wd.alloc zO):=⟨_,rfl⟩;obtain ⟨Ba,hBa⟩:∃ Ba,Ba=wd.heap.size:=⟨_,rfl⟩;rw [<- hWa] at hal hZa hkA Hh ⊢
  rw [<- hBa] at hZa ⊢
  have hBge:w2a.heap.size<=Ba:=by rw [hBa];exact k2d.size
  clear hWa hBa hal;refine rd 1 fun K hK=>?_
  go_simp;refine (hto _ (h.below (kb.trans (hkA.mono kb.size))) hsz.out).mono ?_;rintro e w3 ⟨v3,rfl,ho,hb⟩;have ho3:=ho.sl;clear ho;have k3:=hkA.trans (hb.mono hkA.size);replace hZa:=hZa.below hb;clear hb;go_wp2_with fail;refine hK.out _ _ (hSb _ k3) (fun Hh=>?_);clear hK K;refine rd 3 fun K hK=>?_
  go_simp;refine (htoA _ (hp.below (kb.trans (k3.mono kb.size))).l.sl (ht.below (kb.trans (k3.mono kb.size))).l.sl (by omega) (by omega)).mono ?_;rintro e w3a ⟨p3,x3,rfl,hoA,hb⟩;replace hoA:=hoA.low (show 0<=_ from Nat.zero_le _);have k3a:=k3.trans (hb.mono k3.size);replace ho3:=ho3.below hb;replace hZa:=hZa.below hb;clear hb;go_wp2_with fail;refine hK.out _ _ (hSb _ k3a) (fun Hh=>?_);clear hK K;refine rd 4 fun K hK=>?_
  go_simp;refine (hsp v3 p3 x3 _ ho3 hsz.out (SlN.of_own hoA.head) (SlN.of_own hoA.tail.head) lp lt' (fun g e=>(hoA.head.lt g e).2)).mono ?_;rintro e w4 ⟨v4,vg4,vo4,rfl,os4,hb⟩;have hone4:=os4.sl.one;clear ho3 hoA;have k4:=k3a.trans (hb.mono k3a.size);replace hZa:=hZa.below hb;clear hb;go_wp2_with fail;refine hK.out _ _ (hSb _ k4) (fun Hh=>?_);clear hK K;refine rdo 6 fun K hK=>?_
  refine YS _ _ (by rfl) hone4 hZa (by rfl) (by rfl) (by rfl) ?_;intro We hg hA hzs;have hkE:=k4.grown hg k4.size (fun k e=>by cases e;exact hBge);refine hK.out _ _ (hSb We hkE) (fun Hh=>?_);clear hK K
  (try simp only [Act.put])
  refine dn ?_;exact hcut8 _ _ _ _ _ _ _ _ _ _ _ _ _ _ _ _ _ _ _ _ _ _ _ _ _ _ _ _ _ _ _ _ _ _ _ _ _ _ _ _ _ _ _ _ _ _ _ _ _ _ _ _ _ _ _ _ _ _ _ _ _ _ _ _ _ _ _ _ _ _ _ _ _ _ _ _ _ _ _ _ _ _ _ _ _ _ Ba v4 We (kb.trans (hkE.mono kb.size)) (hSb We hkE).1 (hSb We hkE).2.1 hA (os4.grown hg hZa (by decide) (by decide) (by decide)).sl
