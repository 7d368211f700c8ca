/- Parts of the proof. -/
import Derived.Test.YtgcnmjjlmcnllaaGreatDoorP1
import Derived.Test.YtgcnmjjlmcnllaaGreatDoorP2
import Derived.Test.YtgcnmjjlmcnllaaGreatDoorP3
import Derived.Test.YtgcnmjjlmcnllaaGreatDoorP5
import Derived.Test.YtgcnmjjlmcnllaaGreatDoorP16
import Derived.ChangeOld
import Derived.Below
import Derived.Deep.Slices
import Derived.LaidMore
import Derived.OpenVars
import Derived.ChangeVars
import Derived.Deep.Strs
import Derived.Stop.Joined
namespace Go.Proofs.YtgcnmjjlmcnllaaGreatDoor
set_option maxRecDepth 20000
set_option maxHeartbeats 16000000
open Go.ChangeShapes Go.WideShapes Go.ChangeAt Go.RowKit
section
instance:Inhabited Ce:=⟨Ce.zero⟩
variable {H : Type} {enc : TypeId × Value → H} {w : World} {base : Nat} {spare : Nat → Bool} {held : Bool}
theorem style_cs {fuel:Nat} {cs:List Value} {x:DataW H×List MemPlace} (hf:DataW.trod enc Tryz.prog w base spare held fuel 61 cs=some x) :
  ∃ s:St,cs=[.int .i64 s.fore,.int .i64 s.back,.bool s.bold,.bool s.under,.bool s.turned]:=by
 obtain ⟨xs,n,_,_,hl,hlen,hfs⟩:=DataW.trod_struct Tryz.underlying61 hf;have e:Tryz.prog.cellsOf 61=5:=by kernel_rfl
 have ei:Tryz.prog.cellsOf 2=1:=by kernel_rfl
 have eb:Tryz.prog.cellsOf 4=1:=by kernel_rfl
 match cs,hl.trans e,xs,hlen with
 | [c0,c1,c2,c3,c4],_,[x0,x1,x2,x3,x4],_ =>
  have h0:=hfs 0 _ rfl;have h1:=hfs 1 _ rfl;have h2:=hfs 2 _ rfl;have h3:=hfs 3 _ rfl;have h4:=hfs 4 _ rfl;simp [ei,eb] at h0 h1 h2 h3 h4;obtain ⟨k0,q0,_,_⟩:=DataW.trod_int Tryz.underlying2 h0;obtain ⟨k1,q1,_,_⟩:=DataW.trod_int Tryz.underlying2 h1;obtain ⟨k2,q2,_⟩:=DataW.trod_bool Tryz.underlying4 h2;obtain ⟨k3,q3,_⟩:=DataW.trod_bool Tryz.underlying4 h3;obtain ⟨k4,q4,_⟩:=DataW.trod_bool Tryz.underlying4 h4;simp at q0 q1 q2 q3 q4;subst q0;subst q1;subst q2;subst q3;subst q4;exact ⟨⟨k0,k1,k2,k3,k4⟩,rfl⟩
theorem cell_cs {fuel:Nat} {cs:List Value} {x:DataW H×List MemPlace} (hf:DataW.trod enc Tryz.prog w base spare held fuel 222 cs=some x) :
  ∃ c:Ce,cs=ceL c:=by
 obtain ⟨xs,n,_,_,hl,hlen,hfs⟩:=DataW.trod_struct Tryz.underlying222 hf;have e:Tryz.prog.cellsOf 222=7:=by kernel_rfl
 have es:Tryz.prog.cellsOf 61=5:=by kernel_rfl
 have ei:Tryz.prog.cellsOf 2=1:=by kernel_rfl
 match cs,hl.trans e,xs,hlen with
 | [c0,c1,c2,c3,c4,c5,c6],_,[x0,x1,x2],_ =>
  have h0:=hfs 0 _ rfl;have h1:=hfs 1 _ rfl;have h2:=hfs 2 _ rfl;simp [ei,es] at h0 h1 h2;obtain ⟨k0,q0,_,_⟩:=DataW.trod_int Tryz.underlying2 h0;obtain ⟨s,q1⟩:=style_cs h1;obtain ⟨k2,q2,_,_⟩:=DataW.trod_int Tryz.underlying2 h2;simp at q0 q1 q2;obtain ⟨r1,r2,r3,r4,r5⟩:=q1;subst q0;subst r1;subst r2;subst r3;subst r4;subst r5;subst q2;exact ⟨⟨k0,s,k2⟩,rfl⟩
end
section
variable {H : Type} {enc : TypeId × Value → H} {w : World} {base : Nat} {spare : Nat → Bool} {held : Bool}
theorem cells_tr {fuel:Nat} {cs:List Value} {y:DataW H×List MemPlace} (hf:DataW.trod enc Tryz.prog w base spare held fuel 201 cs=some y) :
  ∃ (v:Value) (xs:List Ce),cs=[v]/\SlC w v xs/\xs.length<=maxLen:=by
 have e:Tryz.prog.cellsOf 222=7:=by kernel_rfl
 rcases Go.Deep.open_slice Tryz.underlying201 hf with ⟨hcs,_⟩|⟨x,len,cap,m,n,D,Pl,hcs,_,hl,hm,hmm,_,hx⟩
 ·exact ⟨_,[],hcs,⟨none,0,rfl,Nat.le_refl _,fun _=>rfl,.inl rfl⟩,by simp⟩
 ·have hlm:len<=m:=by rw [hmm];split<;>omega
  rw [e] at hx
  obtain ⟨f,hfc⟩:=Go.Deep.choose_lt (α:=Ce) (n:=len) (p:=fun i q=>w.cells? base (x.add (i*7)) 7=some (ceL q)) (fun i hi=>by
   obtain ⟨cs',h1,h2⟩:=hx i (by omega);obtain ⟨q,rfl⟩:=cell_cs h2;exact ⟨q,h1⟩)
  have hlen:((List.range len).map f).length=len:=by simp
  refine ⟨_,(List.range len).map f,hcs,⟨some x,cap,by rw [hlen],by rw [hlen];exact hl,(fun h=>by cases h),?_⟩,by rw [hlen];omega⟩
  by_cases h0:len=0
  ·left;subst h0;rfl
  ·right
   have hc:∀ i,i<len->∀ k,k<7->w.cell? ((x.add (i*7)).add k)=(ceL (f i))[k]?:=fun i hi k hk=>by
    obtain ⟨_,hl7,hcell⟩:=World.cells?_some (hfc i hi);exact hcell k hk
   obtain ⟨b,off,spot⟩:=x;have h1:=hc 0 (by omega) 0 (by decide)
   have hspot:spot=none:=by
    have h1':w.cell? ((⟨b,off,spot⟩:Addr).add 0)=some (.int .i64 (f 0).rune):=by simpa [Addr.add,ceL] using h1
    simpa [Addr.add] using World.cell?_spot h1'
   subst hspot;refine ⟨b,off,rfl,?_,fun i hi=>?_⟩
   ·have h1':w.cell? ((⟨b,off,none⟩:Addr).add 0)=some (.int .i64 (f 0).rune):=by simpa [Addr.add,ceL] using h1
    exact World.block_lt_of_cell? w _ h1'
   ·rw [hlen] at hi
    have ef:atC ((List.range len).map f) i=f i:=by simp [atC,hi]
    rw [ef]
    have g:=fun k hk=>hc i hi k hk
    have ea:∀ k,(((⟨b,off,none⟩:Addr).add (i*7)).add k)=⟨b,off+i*7+k,none⟩:=fun k=>by rw [Addr.add_mid,Addr.add_mid]
    simp only [ea] at g;exact ⟨by simpa [ceL] using g 0 (by decide),by simpa [ceL] using g 1 (by decide),by simpa [ceL] using g 2 (by decide),by simpa [ceL] using g 3 (by decide),by simpa [ceL] using g 4 (by decide),by simpa [ceL] using g 5 (by decide),by simpa [ceL] using g 6 (by decide)⟩
theorem rows_tr {fuel:Nat} {cs:List Value} {y:DataW H×List MemPlace} (hf:DataW.trod enc Tryz.prog w base spare held fuel 58 cs=some y) :
  ∃ (v:Value) (rows:List (List Ce)),cs=[v]/\SlG w v rows/\rows.length<=maxLen/\∀ i,i<rows.length->(rowX rows i).length<=maxLen:=by
 have e:Tryz.prog.cellsOf 201=1:=by kernel_rfl
 rcases Go.Deep.open_slice1 Tryz.underlying58 e hf with ⟨hcs,_⟩|⟨x,len,cap,m,n,V,D,Pl,hcs,_,hl,hm,hmm,_,hx⟩
 ·exact ⟨_,[],hcs,⟨none,0,[],rfl,Nat.le_refl _,fun _=>rfl,.inl rfl,fun i h=>absurd h (Nat.not_lt_zero i)⟩,by simp,fun i h=>absurd h (Nat.not_lt_zero i)⟩
 ·have hlm:len<=m:=by rw [hmm];split<;>omega
  obtain ⟨f,hfc⟩:=Go.Deep.choose_lt (α:=List Ce) (n:=len) (p:=fun i xs=>SlC w (V i) xs/\xs.length<=maxLen) (fun i hi=>by
   obtain ⟨h1,h2⟩:=hx i (by omega);obtain ⟨v,xs,hv,hs,hle⟩:=cells_tr h2;simp at hv;subst hv;exact ⟨xs,hs,hle⟩)
  have hlen:((List.range len).map f).length=len:=by simp
  have hvl:((List.range len).map V).length=len:=by simp
  have hX:∀ i,i<len->rowX ((List.range len).map f) i=f i:=fun i hi=>by simp [rowX,List.getD,hi]
  have hV:∀ i,i<len->rowV ((List.range len).map V) i=V i:=fun i hi=>by simp [rowV,List.getD,hi]
  refine ⟨_,(List.range len).map f,hcs,⟨some x,cap,(List.range len).map V,by rw [hlen],by rw [hlen];exact hl,(fun h=>by cases h),?_,fun i hi=>?_⟩,by rw [hlen];omega,fun i hi=>?_⟩
  ·by_cases h0:len=0
   ·left;subst h0;rfl
   ·right
    obtain ⟨b,off,spot⟩:=x;have h1:=(hx 0 (by omega)).1
    have h1c:w.cell? ⟨b,off,spot⟩=some (V 0):=by
     have:(⟨b,off,spot⟩:Addr).add 0=⟨b,off,spot⟩:=by unfold Addr.add;split<;>simp_all
     rwa [this] at h1
    have hspot:spot=none:=World.cell?_spot h1c;subst hspot;refine ⟨b,off,rfl,World.block_lt_of_cell? w _ h1c,fun i hi=>?_⟩;rw [hlen] at hi
    rw [hV i hi,<- (hx i (by omega)).1,Addr.add_mid]
  ·rw [hlen] at hi
   rw [hV i hi,hX i hi]
   exact (hfc i hi).1
  ·rw [hlen] at hi
   rw [hX i hi]
   exact (hfc i hi).2
end
section
variable {H : Type} {enc : TypeId × Value → H} {w : World} {base : Nat} {spare : Nat → Bool} {held : Bool}
theorem slN_of {w:World} {x:Addr} {l c:Nat} {zs:List Int} (hl:l<=c) (hz:l<=zs.length) (hc:∀ i,i<zs.length->w.cell? (x.add i)=some (.int .i64 (zs.getD i 0))):SlN w (.slice (some x) l c) (zs.take l)/\(zs.take l).length=l:=by
 have hlen:(zs.take l).length=l:=by rw [List.length_take];omega
 refine ⟨⟨some x,c,by rw [hlen],by rw [hlen];exact hl,(fun e=>by cases e),?_⟩,hlen⟩
 by_cases h0:l=0
 ·left;subst h0;simp
 ·right
  obtain ⟨b,off,spot⟩:=x;have h1:=hc 0 (by omega);have hspot:spot=none:=by simpa [Addr.add] using World.cell?_spot h1
  subst hspot;refine ⟨b,off,rfl,World.block_lt_of_cell? w _ h1,fun i hi=>?_⟩;rw [hlen] at hi
  have h2:=hc i (by omega);have e:(zs.take l).getD i 0=zs.getD i 0:=by simp [List.getD,hi]
  rw [e,<- h2]
  by_cases hi0:i=0
  ·subst hi0;simp [Addr.add]
  ·simp [Addr.add,hi0]
theorem ints_tr {fuel:Nat} {cs:List Value} {y:DataW H×List MemPlace} (hf:DataW.trod enc Tryz.prog w base spare held fuel 29 cs=some y) :
  ∃ (v:Value) (xs:List Int),cs=[v]/\SlN w v xs/\xs.length<=maxLen:=by
 rcases open_ints Tryz.underlying29 Tryz.underlying2 (by kernel_rfl) hf with ⟨hcs,_⟩|⟨x,l,c,zs,hcs,_,hl,hm,hz,_,hcell,hwz⟩
 ·exact ⟨_,[],hcs,⟨none,0,rfl,Nat.le_refl _,fun _=>rfl,.inl rfl⟩,by simp⟩
 ·have:=slN_of (w:=w) (x:=x) hl (by rw [hz];split<;>omega) hcell
  exact ⟨_,_,hcs,this.1,by rw [this.2];omega⟩
end
section
variable {H : Type} {enc : TypeId × Value → H} {w : World} {base : Nat} {spare : Nat → Bool} {held : Bool}
theorem grid_cs {fuel:Nat} {cs:List Value} {y:DataW H×List MemPlace} (hf:DataW.trod enc Tryz.prog w base spare held fuel 60 cs=some y) :
  ∃ (cols:Int) (u:Value) (rows:List (List Ce)),cs=[.int .i64 cols,u]/\SlG w u rows/\rows.length<=maxLen/\∀ i,i<rows.length->(rowX rows i).length<=maxLen:=by
 obtain ⟨xs,n,_,_,hl,hlen,hfs⟩:=DataW.trod_struct Tryz.underlying60 hf;have e:Tryz.prog.cellsOf 60=2:=by kernel_rfl
 have ei:Tryz.prog.cellsOf 2=1:=by kernel_rfl
 have er:Tryz.prog.cellsOf 58=1:=by kernel_rfl
 match cs,hl.trans e,xs,hlen with
 | [c0,c1],_,[x0,x1],_ =>
  have h0:=hfs 0 _ rfl;have h1:=hfs 1 _ rfl;simp [ei,er] at h0 h1;obtain ⟨k0,q0,_,_⟩:=DataW.trod_int Tryz.underlying2 h0;obtain ⟨u,rows,q1,hs,hle,hxl⟩:=rows_tr h1;simp at q0 q1;subst q0;subst q1;exact ⟨_,_,rows,rfl,hs,hle,hxl⟩
theorem parser_cs {fuel:Nat} {cs:List Value} {y:DataW H×List MemPlace} (hf:DataW.trod enc Tryz.prog w base spare held fuel 62 cs=some y) :
  ∃ (q:Pa) (pv tv:Value),cs=[.int .i64 q.state,pv,.int .i64 q.mark,tv]/\SlN w pv q.params/\SlN w tv q.text/\q.params.length<=maxLen/\q.text.length<=maxLen:=by
 obtain ⟨xs,n,_,_,hl,hlen,hfs⟩:=DataW.trod_struct Tryz.underlying62 hf;have e:Tryz.prog.cellsOf 62=4:=by kernel_rfl
 have ei:Tryz.prog.cellsOf 2=1:=by kernel_rfl
 have er:Tryz.prog.cellsOf 29=1:=by kernel_rfl
 match cs,hl.trans e,xs,hlen with
 | [c0,c1,c2,c3],_,[x0,x1,x2,x3],_ =>
  have h0:=hfs 0 _ rfl;have h1:=hfs 1 _ rfl;have h2:=hfs 2 _ rfl;have h3:=hfs 3 _ rfl;simp [ei,er] at h0 h1 h2 h3;obtain ⟨k0,q0,_,_⟩:=DataW.trod_int Tryz.underlying2 h0;obtain ⟨u1,y1,q1,s1,l1⟩:=ints_tr h1;obtain ⟨k2,q2,_,_⟩:=DataW.trod_int Tryz.underlying2 h2;obtain ⟨u3,y3,q3,s3,l3⟩:=ints_tr h3;simp at q0 q1 q2 q3;subst q0;subst q1;subst q2;subst q3;exact ⟨⟨k0,y1,k2,y3⟩,_,_,rfl,s1,s3,l1,l3⟩
theorem feeder_cs {fuel:Nat} {cs:List Value} {y:DataW H×List MemPlace} (hf:DataW.trod enc Tryz.prog w base spare held fuel 63 cs=some y) :
  ∃ s:ByteArray,cs=[.string s]/\s.size<=maxLen:=by
 obtain ⟨xs,n,_,_,hl,hlen,hfs⟩:=DataW.trod_struct Tryz.underlying63 hf;have e:Tryz.prog.cellsOf 63=1:=by kernel_rfl
 have e2:Tryz.prog.cellsOf 9=1:=by kernel_rfl
 match cs,hl.trans e,xs,hlen with
 | [c0],_,[x0],_ =>
  have h0:=hfs 0 _ rfl;simp [e2] at h0;obtain ⟨s,hs,_,hm⟩:=DataW.trod_string Tryz.underlying9 h0;simp at hs;subst hs;exact ⟨s,rfl,hm⟩
theorem split1 (cs:List Value) (a k b:Nat) (h:a+k=b):cs.drop a=(cs.drop a).take k++cs.drop b:=by
 subst h;rw [<- List.drop_drop]
 exact (List.take_append_drop k (cs.drop a)).symm
theorem term_cs {fuel:Nat} {cs:List Value} {y:DataW H×List MemPlace} (hf:DataW.trod enc Tryz.prog w base spare held fuel 65 cs=some y) :
  ∃ (t:Te) (u:Tv),cs=(teCs t u).toList/\SlT w t u/\SzT maxLen t/\t.fe.size<=maxLen:=by
 obtain ⟨xs,n,_,_,hl,hlen,hfs⟩:=DataW.trod_struct Tryz.underlying65 hf;have e:Tryz.prog.cellsOf 65=30:=by kernel_rfl
 have eg:Tryz.prog.cellsOf 60=2:=by kernel_rfl
 have ei:Tryz.prog.cellsOf 2=1:=by kernel_rfl
 have eb:Tryz.prog.cellsOf 4=1:=by kernel_rfl
 have es:Tryz.prog.cellsOf 61=5:=by kernel_rfl
 have el:Tryz.prog.cellsOf 29=1:=by kernel_rfl
 have ep:Tryz.prog.cellsOf 62=4:=by kernel_rfl
 have ef:Tryz.prog.cellsOf 63=1:=by kernel_rfl
 have hn:xs.length=17:=hlen;have hget:∀ i,i<17->∃ y,xs[i]?=some y:=fun i hi=>⟨xs[i]'(by omega),List.getElem?_eq_getElem (by omega)⟩
 clear hlen hf;obtain ⟨y0,hy0⟩:=hget 0 (by decide);have h0:DataW.trod enc Tryz.prog w base spare held n 60 ((cs.drop 0).take (Tryz.prog.cellsOf 60))=some y0:=(hfs 0 _ rfl).trans hy0;rw [eg] at h0
 obtain ⟨k0,u0,r0,q0,s0,l0,m0⟩:=grid_cs h0;obtain ⟨y1,hy1⟩:=hget 1 (by decide);have h1:DataW.trod enc Tryz.prog w base spare held n 60 ((cs.drop 2).take (Tryz.prog.cellsOf 60))=some y1:=(hfs 1 _ rfl).trans hy1;rw [eg] at h1
 obtain ⟨k1,u1,r1,q1,s1,l1,m1⟩:=grid_cs h1;obtain ⟨y2,hy2⟩:=hget 2 (by decide);have h2:DataW.trod enc Tryz.prog w base spare held n 2 ((cs.drop 4).take (Tryz.prog.cellsOf 2))=some y2:=(hfs 2 _ rfl).trans hy2;rw [ei] at h2
 obtain ⟨k2,q2,_,_⟩:=DataW.trod_int Tryz.underlying2 h2;obtain ⟨y3,hy3⟩:=hget 3 (by decide);have h3:DataW.trod enc Tryz.prog w base spare held n 2 ((cs.drop 5).take (Tryz.prog.cellsOf 2))=some y3:=(hfs 3 _ rfl).trans hy3;rw [ei] at h3
 obtain ⟨k3,q3,_,_⟩:=DataW.trod_int Tryz.underlying2 h3;obtain ⟨y4,hy4⟩:=hget 4 (by decide);have h4:DataW.trod enc Tryz.prog w base spare held n 61 ((cs.drop 6).take (Tryz.prog.cellsOf 61))=some y4:=(hfs 4 _ rfl).trans hy4;rw [es] at h4
 obtain ⟨k4,q4⟩:=style_cs h4;obtain ⟨y5,hy5⟩:=hget 5 (by decide);have h5:DataW.trod enc Tryz.prog w base spare held n 2 ((cs.drop 11).take (Tryz.prog.cellsOf 2))=some y5:=(hfs 5 _ rfl).trans hy5;rw [ei] at h5
 obtain ⟨k5,q5,_,_⟩:=DataW.trod_int Tryz.underlying2 h5;obtain ⟨y6,hy6⟩:=hget 6 (by decide);have h6:DataW.trod enc Tryz.prog w base spare held n 2 ((cs.drop 12).take (Tryz.prog.cellsOf 2))=some y6:=(hfs 6 _ rfl).trans hy6;rw [ei] at h6
 obtain ⟨k6,q6,_,_⟩:=DataW.trod_int Tryz.underlying2 h6;obtain ⟨y7,hy7⟩:=hget 7 (by decide);have h7:DataW.trod enc Tryz.prog w base spare held n 4 ((cs.drop 13).take (Tryz.prog.cellsOf 4))=some y7:=(hfs 7 _ rfl).trans hy7;rw [eb] at h7
 obtain ⟨k7,q7,_⟩:=DataW.trod_bool Tryz.underlying4 h7;obtain ⟨y8,hy8⟩:=hget 8 (by decide);have h8:DataW.trod enc Tryz.prog w base spare held n 4 ((cs.drop 14).take (Tryz.prog.cellsOf 4))=some y8:=(hfs 8 _ rfl).trans hy8;rw [eb] at h8
 obtain ⟨k8,q8,_⟩:=DataW.trod_bool Tryz.underlying4 h8;obtain ⟨y9,hy9⟩:=hget 9 (by decide);have h9:DataW.trod enc Tryz.prog w base spare held n 4 ((cs.drop 15).take (Tryz.prog.cellsOf 4))=some y9:=(hfs 9 _ rfl).trans hy9;rw [eb] at h9
 obtain ⟨k9,q9,_⟩:=DataW.trod_bool Tryz.underlying4 h9;obtain ⟨y10,hy10⟩:=hget 10 (by decide);have h10:DataW.trod enc Tryz.prog w base spare held n 4 ((cs.drop 16).take (Tryz.prog.cellsOf 4))=some y10:=(hfs 10 _ rfl).trans hy10;rw [eb] at h10
 obtain ⟨k10,q10,_⟩:=DataW.trod_bool Tryz.underlying4 h10;obtain ⟨y11,hy11⟩:=hget 11 (by decide);have h11:DataW.trod enc Tryz.prog w base spare held n 2 ((cs.drop 17).take (Tryz.prog.cellsOf 2))=some y11:=(hfs 11 _ rfl).trans hy11;rw [ei] at h11
 obtain ⟨k11,q11,_,_⟩:=DataW.trod_int Tryz.underlying2 h11;obtain ⟨y12,hy12⟩:=hget 12 (by decide);have h12:DataW.trod enc Tryz.prog w base spare held n 2 ((cs.drop 18).take (Tryz.prog.cellsOf 2))=some y12:=(hfs 12 _ rfl).trans hy12;rw [ei] at h12
 obtain ⟨k12,q12,_,_⟩:=DataW.trod_int Tryz.underlying2 h12;obtain ⟨y13,hy13⟩:=hget 13 (by decide);have h13:DataW.trod enc Tryz.prog w base spare held n 61 ((cs.drop 19).take (Tryz.prog.cellsOf 61))=some y13:=(hfs 13 _ rfl).trans hy13;rw [es] at h13
 obtain ⟨k13,q13⟩:=style_cs h13;obtain ⟨y14,hy14⟩:=hget 14 (by decide);have h14:DataW.trod enc Tryz.prog w base spare held n 29 ((cs.drop 24).take (Tryz.prog.cellsOf 29))=some y14:=(hfs 14 _ rfl).trans hy14;rw [el] at h14
 obtain ⟨u14,k14,q14,s14,l14⟩:=ints_tr h14;obtain ⟨y15,hy15⟩:=hget 15 (by decide);have h15:DataW.trod enc Tryz.prog w base spare held n 62 ((cs.drop 25).take (Tryz.prog.cellsOf 62))=some y15:=(hfs 15 _ rfl).trans hy15;rw [ep] at h15
 obtain ⟨k15,u15,v15,q15,s15,l15,m15,n15⟩:=parser_cs h15;obtain ⟨y16,hy16⟩:=hget 16 (by decide);have h16:DataW.trod enc Tryz.prog w base spare held n 63 ((cs.drop 29).take (Tryz.prog.cellsOf 63))=some y16:=(hfs 16 _ rfl).trans hy16;rw [ef] at h16
 obtain ⟨k16,q16,l16⟩:=feeder_cs h16;have z17:cs.drop 30=[]:=List.drop_eq_nil_of_le (by rw [hl,e];exact Nat.le_refl _);have z16:cs.drop 29=[.string k16]:=by rw [split1 cs 29 1 30 rfl,q16,z17];rfl
 have z15:cs.drop 25=[.int .i64 k15.state,u15,.int .i64 k15.mark,v15,.string k16]:=by rw [split1 cs 25 4 29 rfl,q15,z16];rfl
 have z14:cs.drop 24=[u14,.int .i64 k15.state,u15,.int .i64 k15.mark,v15,.string k16]:=by rw [split1 cs 24 1 25 rfl,q14,z15];rfl
 have z13:cs.drop 19=[.int .i64 k13.fore,.int .i64 k13.back,.bool k13.bold,.bool k13.under,.bool k13.turned,u14,.int .i64 k15.state,u15,.int .i64 k15.mark,v15,.string k16]:=by rw [split1 cs 19 5 24 rfl,q13,z14];rfl
 have z12:cs.drop 18=[.int .i64 k12,.int .i64 k13.fore,.int .i64 k13.back,.bool k13.bold,.bool k13.under,.bool k13.turned,u14,.int .i64 k15.state,u15,.int .i64 k15.mark,v15,.string k16]:=by rw [split1 cs 18 1 19 rfl,q12,z13];rfl
 have z11:cs.drop 17=[.int .i64 k11,.int .i64 k12,.int .i64 k13.fore,.int .i64 k13.back,.bool k13.bold,.bool k13.under,.bool k13.turned,u14,.int .i64 k15.state,u15,.int .i64 k15.mark,v15,.string k16]:=by rw [split1 cs 17 1 18 rfl,q11,z12];rfl
 have z10:cs.drop 16=[.bool k10,.int .i64 k11,.int .i64 k12,.int .i64 k13.fore,.int .i64 k13.back,.bool k13.bold,.bool k13.under,.bool k13.turned,u14,.int .i64 k15.state,u15,.int .i64 k15.mark,v15,.string k16]:=by rw [split1 cs 16 1 17 rfl,q10,z11];rfl
 have z9:cs.drop 15=[.bool k9,.bool k10,.int .i64 k11,.int .i64 k12,.int .i64 k13.fore,.int .i64 k13.back,.bool k13.bold,.bool k13.under,.bool k13.turned,u14,.int .i64 k15.state,u15,.int .i64 k15.mark,v15,.string k16]:=by rw [split1 cs 15 1 16 rfl,q9,z10];rfl
 have z8:cs.drop 14=[.bool k8,.bool k9,.bool k10,.int .i64 k11,.int .i64 k12,.int .i64 k13.fore,.int .i64 k13.back,.bool k13.bold,.bool k13.under,.bool k13.turned,u14,.int .i64 k15.state,u15,.int .i64 k15.mark,v15,.string k16]:=by rw [split1 cs 14 1 15 rfl,q8,z9];rfl
 have z7:cs.drop 13=[.bool k7,.bool k8,.bool k9,.bool k10,.int .i64 k11,.int .i64 k12,.int .i64 k13.fore,.int .i64 k13.back,.bool k13.bold,.bool k13.under,.bool k13.turned,u14,.int .i64 k15.state,u15,.int .i64 k15.mark,v15,.string k16]:=by rw [split1 cs 13 1 14 rfl,q7,z8];rfl
 have z6:cs.drop 12=[.int .i64 k6,.bool k7,.bool k8,.bool k9,.bool k10,.int .i64 k11,.int .i64 k12,.int .i64 k13.fore,.int .i64 k13.back,.bool k13.bold,.bool k13.under,.bool k13.turned,u14,.int .i64 k15.state,u15,.int .i64 k15.mark,v15,.string k16]:=by rw [split1 cs 12 1 13 rfl,q6,z7];rfl
 have z5:cs.drop 11=[.int .i64 k5,.int .i64 k6,.bool k7,.bool k8,.bool k9,.bool k10,.int .i64 k11,.int .i64 k12,.int .i64 k13.fore,.int .i64 k13.back,.bool k13.bold,.bool k13.under,.bool k13.turned,u14,.int .i64 k15.state,u15,.int .i64 k15.mark,v15,.string k16]:=by rw [split1 cs 11 1 12 rfl,q5,z6];rfl
 have z4:cs.drop 6=[.int .i64 k4.fore,.int .i64 k4.back,.bool k4.bold,.bool k4.under,.bool k4.turned,.int .i64 k5,.int .i64 k6,.bool k7,.bool k8,.bool k9,.bool k10,.int .i64 k11,.int .i64 k12,.int .i64 k13.fore,.int .i64 k13.back,.bool k13.bold,.bool k13.under,.bool k13.turned,u14,.int .i64 k15.state,u15,.int .i64 k15.mark,v15,.string k16]:=by rw [split1 cs 6 5 11 rfl,q4,z5];rfl
 have z3:cs.drop 5=[.int .i64 k3,.int .i64 k4.fore,.int .i64 k4.back,.bool k4.bold,.bool k4.under,.bool k4.turned,.int .i64 k5,.int .i64 k6,.bool k7,.bool k8,.bool k9,.bool k10,.int .i64 k11,.int .i64 k12,.int .i64 k13.fore,.int .i64 k13.back,.bool k13.bold,.bool k13.under,.bool k13.turned,u14,.int .i64 k15.state,u15,.int .i64 k15.mark,v15,.string k16]:=by rw [split1 cs 5 1 6 rfl,q3,z4];rfl
 have z2:cs.drop 4=[.int .i64 k2,.int .i64 k3,.int .i64 k4.fore,.int .i64 k4.back,.bool k4.bold,.bool k4.under,.bool k4.turned,.int .i64 k5,.int .i64 k6,.bool k7,.bool k8,.bool k9,.bool k10,.int .i64 k11,.int .i64 k12,.int .i64 k13.fore,.int .i64 k13.back,.bool k13.bold,.bool k13.under,.bool k13.turned,u14,.int .i64 k15.state,u15,.int .i64 k15.mark,v15,.string k16]:=by rw [split1 cs 4 1 5 rfl,q2,z3];rfl
 have z1:cs.drop 2=[.int .i64 k1,u1,.int .i64 k2,.int .i64 k3,.int .i64 k4.fore,.int .i64 k4.back,.bool k4.bold,.bool k4.under,.bool k4.turned,.int .i64 k5,.int .i64 k6,.bool k7,.bool k8,.bool k9,.bool k10,.int .i64 k11,.int .i64 k12,.int .i64 k13.fore,.int .i64 k13.back,.bool k13.bold,.bool k13.under,.bool k13.turned,u14,.int .i64 k15.state,u15,.int .i64 k15.mark,v15,.string k16]:=by rw [split1 cs 2 2 4 rfl,q1,z2];rfl
 have z0:cs.drop 0=[.int .i64 k0,u0,.int .i64 k1,u1,.int .i64 k2,.int .i64 k3,.int .i64 k4.fore,.int .i64 k4.back,.bool k4.bold,.bool k4.under,.bool k4.turned,.int .i64 k5,.int .i64 k6,.bool k7,.bool k8,.bool k9,.bool k10,.int .i64 k11,.int .i64 k12,.int .i64 k13.fore,.int .i64 k13.back,.bool k13.bold,.bool k13.under,.bool k13.turned,u14,.int .i64 k15.state,u15,.int .i64 k15.mark,v15,.string k16]:=by rw [split1 cs 0 2 2 rfl,q0,z1];rfl
 refine ⟨⟨k0,r0,k1,r1,k2,k3,k4,k5,k6,k7,k8,k9,k10,k11,k12,k13,k14,k15,k16⟩,⟨u0,u1,u14,u15,v15⟩,z0,⟨s0,s1,s14,s15,l15⟩,⟨l0,m0,l1,m1,l14,m15,n15⟩,l16⟩
theorem term_view {b0:Nat} {r:Reach} {v:Value} {d:DataW H} {p:List MemPlace} (hv:Value.okWide Tryz.prog w r b0 65 v) (h:DataW.Trod enc Tryz.prog w base spare held 65 v d p) :
  ∃ (t:Te) (u:Tv),v=teV t u/\SlT w t u/\SzT maxLen t/\t.fe.size<=maxLen:=by
 obtain ⟨cs,rfl,_⟩:=okWide_struct Tryz.underlying65 hv;obtain ⟨fuel,hf⟩:=h;obtain ⟨t,u,h1,h2,h3,h4⟩:=term_cs hf;refine ⟨t,u,?_,h2,h3,h4⟩;unfold teV
 congr 1
 exact Array.toList_inj.1 h1
end
section
variable {H : Type} {enc : TypeId × Value → H} {w : World} {base : Nat} {spare : Nat → Bool} {held : Bool}
theorem action_view {b0:Nat} {r:Reach} {v:Value} {d:DataW H} {p:List MemPlace} (hv:Value.okWide Tryz.prog w r b0 66 v) (h:DataW.Trod enc Tryz.prog w base spare held 66 v d p) :
  ∃ (q:Ac) (pv tv:Value),v=.agg (acA q.kind q.rune pv q.mark tv)/\SlN w pv q.params/\SlN w tv q.text/\q.params.length<=maxLen/\q.text.length<=maxLen:=by
 obtain ⟨cs,rfl,hsz⟩:=okWide_struct Tryz.underlying66 hv;obtain ⟨fuel,hf⟩:=h;obtain ⟨xs,n,_,_,hl,hlen,hfs⟩:=DataW.trod_struct Tryz.underlying66 hf;have e:Tryz.prog.cellsOf 66=5:=by kernel_rfl
 have ei:Tryz.prog.cellsOf 2=1:=by kernel_rfl
 have er:Tryz.prog.cellsOf 29=1:=by kernel_rfl
 obtain ⟨l⟩:=cs
 match l,hsz.trans e,xs,hlen with
 | [c0,c1,c2,c3,c4],_,[x0,x1,x2,x3,x4],_ =>
  have h0:=hfs 0 _ rfl;have h1:=hfs 1 _ rfl;have h2:=hfs 2 _ rfl;have h3:=hfs 3 _ rfl;have h4:=hfs 4 _ rfl;simp [Value.cells,ei,er] at h0 h1 h2 h3 h4;obtain ⟨k0,q0,_,_⟩:=DataW.trod_int Tryz.underlying2 h0;obtain ⟨k1,q1,_,_⟩:=DataW.trod_int Tryz.underlying2 h1;obtain ⟨u2,y2,q2,s2,l2⟩:=ints_tr h2;obtain ⟨k3,q3,_,_⟩:=DataW.trod_int Tryz.underlying2 h3;obtain ⟨u4,y4,q4,s4,l4⟩:=ints_tr h4;simp at q0 q1 q2 q3 q4;subst q0;subst q1;subst q2;subst q3;subst q4;exact ⟨⟨k0,k1,y2,k3,y4⟩,_,_,rfl,s2,s4,l2,l4⟩
end
end Go.Proofs.YtgcnmjjlmcnllaaGreatDoor
namespace Go.Proofs.YtgcnmjjlmcnllaaGreatDoor
set_option maxRecDepth 20000
set_option maxHeartbeats 16000000
open Go.ChangeShapes Go.WideShapes Go.ChangeAt Go.WideElems Go.RowKit
theorem gSpans : Tryz.prog.globalNamed "loop.example/g00215/impl.spans" = some 0 := by kernel_rfl
theorem tSpans:(Tryz.prog.globals[0]?).map (·.type)=some 209:=by kernel_rfl
theorem c_i64:Tryz.prog.cellsOf 2=1:=by kernel_rfl
theorem c_span:Tryz.prog.cellsOf 208=3:=by kernel_rfl
theorem c_spans:Tryz.prog.cellsOf 209=18:=by kernel_rfl

section
variable {H : Type} {enc : TypeId × Value → H} {w : World} {base : Nat} {spare : Nat → Bool} {held : Bool}
theorem span_open {fuel:Nat} {cs:List Value} {a b c:Int} {p:List MemPlace}
  (h:DataW.trod enc Tryz.prog w base spare held fuel 208 cs=some (.agg [.lit (.int .i64 a),.lit (.int .i64 b),.lit (.int .i64 c)],p)):cs=[.int .i64 a,.int .i64 b,.int .i64 c]:=by
 obtain ⟨y0,y1,y2,n,e,hl,h0,h1,h2⟩:=Go.Deep.trod_struct3 Tryz.underlying208 h;rw [c_span] at hl
 simp only [Prod.mk.injEq,DataW.agg.injEq,List.cons.injEq,and_true] at e;obtain ⟨⟨e0,e1,e2⟩,_⟩:=e
 match cs,hl with
 | [x0,x1,x2],_ =>
  obtain ⟨k0,q0,r0,_⟩:=DataW.trod_int Tryz.underlying2 h0;obtain ⟨k1,q1,r1,_⟩:=DataW.trod_int Tryz.underlying2 h1;obtain ⟨k2,q2,r2,_⟩:=DataW.trod_int Tryz.underlying2 h2;subst r0;subst r1;subst r2;simp only [DataW.lit.injEq,Lit.int.injEq,true_and] at e0 e1 e2;subst e0;subst e1;subst e2;rw [c_i64] at q0 q1 q2
  simp at q0 q1 q2;subst q0;subst q1;subst q2
  rfl
theorem spans_open {fuel:Nat} {cs:List Value} {p:List MemPlace}
  (h:DataW.trod enc Tryz.prog w base spare held fuel 209 cs=some (Rows.laid_loop_example_g00215_impl_spans,p)):cs=spansC.toList:=by
 obtain ⟨xs,m,rfl,e,hl,hn,hel⟩:=DataW.trod_array Tryz.underlying209 h;rw [c_spans] at hl
 simp only [Rows.laid_loop_example_g00215_impl_spans,Prod.mk.injEq,DataW.agg.injEq] at e;obtain ⟨e,_⟩:=e
 match xs,hn with
 | [x0,x1,x2,x3,x4,x5],_ =>
  simp only [List.map_cons,List.map_nil,List.cons.injEq,and_true] at e;obtain ⟨e0,e1,e2,e3,e4,e5⟩:=e
  have go:∀ (i:Nat) (x:DataW H×List MemPlace) (a b c:Int),i<6->[x0,x1,x2,x3,x4,x5][i]?=some x->DataW.agg [.lit (.int .i64 a),.lit (.int .i64 b),.lit (.int .i64 c)]=x.1->(cs.drop (i*3)).take 3=[.int .i64 a,.int .i64 b,.int .i64 c]:=by
   intro i x a b c hi hx he;have:=hel i hi;rw [c_span,hx] at this
   obtain ⟨x1,x2⟩:=x;simp only at he;rw [<- he] at this
   exact span_open this
  have g0:=go 0 x0 _ _ _ (by decide) rfl e0;have g1:=go 1 x1 _ _ _ (by decide) rfl e1;have g2:=go 2 x2 _ _ _ (by decide) rfl e2;have g3:=go 3 x3 _ _ _ (by decide) rfl e3;have g4:=go 4 x4 _ _ _ (by decide) rfl e4;have g5:=go 5 x5 _ _ _ (by decide) rfl e5
  match cs,hl with
  | [a0,a1,a2,a3,a4,a5,a6,a7,a8,a9,b0,b1,b2,b3,b4,b5,b6,b7],_ =>
   simp at g0 g1 g2 g3 g4 g5;simp [spansC,g0,g1,g2,g3,g4,g5]
end
theorem spans_of_laid {W : World} (h : laidMetH Tryz.prog [("loop.example/g00215/impl.spans", Rows.laid_loop_example_g00215_impl_spans)] W) : SpansAt W := by
 rw [MakeChecks.laidMetH_plain _ _ _ (by kernel_rfl)] at h
 obtain ⟨ps,⟨g0,t0,cs0,f0,p0,q0,hg0,ht0,hv0,hd0,_⟩,_⟩:=h;obtain rfl:=Option.some.inj (gSpans.symm.trans hg0);obtain rfl:=Option.some.inj (tSpans.symm.trans ht0);have hcs:=spans_open hd0;have e:cs0=spansC:=by cases cs0;simp at hcs;rw [hcs]
 subst e;unfold World.var? at hv0;rw [gSpans] at hv0
 simp only [Option.bind_some] at hv0
 cases hh:W.heap[0]? with
 | none=>rw [hh] at hv0;cases hv0
 | some o =>
  rw [hh] at hv0
  cases o with
  | cells c t fr=>simp at hv0;subst hv0;exact ⟨t,fr,hh⟩
  | _=>simp at hv0
theorem spans_door (os : Os) (args : Array Value) : laidMetH Tryz.prog [("loop.example/g00215/impl.spans", Rows.laid_loop_example_g00215_impl_spans)] ((World.doorLaid Tryz.prog 400 os).forCall (fun _ _ => 0) ⟨#[], args, []⟩).memory :=
 laidMetH_of_parts3 (fuel:=8) (laidMet_of_run' 8 (by kernel_rfl) (by kernel_rfl)) (by kernel_rfl) (by kernel_rfl)
end Go.Proofs.YtgcnmjjlmcnllaaGreatDoor
