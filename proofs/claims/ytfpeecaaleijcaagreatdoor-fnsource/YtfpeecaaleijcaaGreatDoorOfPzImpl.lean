import Derived.Test.YtfpeecaaleijcaaGreatDoorOfCl
import Derived.Test.YtfpeecaaleijcaaGreatDoorOfPzKind
import Derived.Test.YtfpeecaaleijcaaGreatDoorOfPzL5
import Derived.Test.YtfpeecaaleijcaaGreatDoorOfPzL7
import Derived.Test.YtfpeecaaleijcaaGreatDoorOfPzL10
import Derived.Maps.OwnSet
import Derived.Laws.CopyRow
import Derived.Laws.CopyOwn
import Derived.Test.YtfpeecaaleijcaaGreatDoorOfAsmNew
import Derived.Laws.EntriesVeiled
import Derived.Test.YtfpeecaaleijcaaGreatDoorOfPzSpec
import Derived.Test.YtfpeecaaleijcaaGreatDoorOfRdLine
import Derived.Lib.SmallJoins
set_option maxHeartbeats 6400000
set_option maxRecDepth 20000
namespace Go.Proofs.YtfpeecaaleijcaaGreatDoor
open Go.RowKit Go.Proofs
variable {cs:Array Value}{F:List UInt8->Option Value}{B gR mf n nb ob rb sb:Nat}{v w:World}
theorem jA:Tryz.prog.globalNamed "internal/bytealg.MaxLen" =some (Tryz.laysSp_ren.g 1):=by kernel_rfl
theorem Vu(l:List UInt8)(w:World)(hE:Env w B)(hl:(l.length:Int)<=200000):
 Calls Tryz.prog 64 #[.string (Ck l),.string ⟨#[32]⟩] w fun e w'=>e=.returned (Vs w.heap.size (Aj l).length (Aj l).length)/\Below w.heap.size w w'/\FA w' w.heap.size (Aj l):=by
 obtain⟨m,hm⟩:=hE.ml;have hc:w.cell? ⟨Tryz.laysSp_ren.g 1,0,none⟩=some (Vi m):=by simpa using World.var?_cell jA hm 0
 have hn:Lib.countB (Ck l) ⟨#[32]⟩=l.count 32:=Lib.count_one 32 l;have hs:(Lib.splitB ⟨#[32]⟩ 0 (l.count 32) (Ck l)).map (·.data.toList)=Aj l:=(Lib.splitB_data _ _ _ _).trans (OZ _ _ jG);refine(Any.strings_Split Tryz.laysSp (by kernel_rfl) (Ck l) ⟨#[32]⟩ m w (by show(Ck l).data.size<_;simp[Ck];omega) hc (by decide)).mono ?_;rintro e w'⟨rfl,rfl⟩;rw[hn,<-OE];refine⟨rfl,Ak,⟨_,Ai _ _,fun i hi=>?_⟩⟩;have e:(Lib.splitB ⟨#[32]⟩ 0 (l.count 32) (Ck l))=(Aj l).map Ck:=by
  rw[<-hs,List.map_map];exact(List.map_id'' (fun b=>by simp[Ck]) _).symm
 rw[e,List.getElem?_toArray,List.map_map,List.getElem?_map,List.getElem?_eq_getElem hi];simp[fd,hi]
def KA(B:Nat)(rb sb nb ob mf km:Nat)(S:PS)(l:List UInt8)(v:Value):Prop:=∃k:Nat,v=.func (.func k) #[Vq rb] #[]/\(∀args w,(callFunc k args).run Tryz.prog w=.ok (.enter k args) w)/\∀(w:World)(fb:Nat),B<=w.heap.size->FA w fb (Aj l)->(∃(sH sR sP sO:Sl)(bv:List Value),PR w B S rb sb nb ob mf km sH sR sP sO bv)->
 Calls Tryz.prog k #[Vq rb,Vs fb (Aj l).length (Aj l).length] w fun e w'=>PA B w rb sb nb ob mf km (WC S l (Aj l)) e w'
theorem Yp(B:Nat)(rb sb nb ob mf km:Nat)(S:PS)(l:List UInt8)(hbd:Ie S 100000)(hl:(l.length:Int)<=199999):(Ja rb (fd (Aj l) 0)=none/\WC S l (Aj l)=none)∨∃v,Ja rb (fd (Aj l) 0)=some v/\KA B rb sb nb ob mf km S l v:=by
 have HL:∀i,((Ck (fd (Aj l) i)).size:Int)<=200000:=fun i=>by
  have:(fd (Aj l) i).length<=l.length:=Rz l i;show(((Ck (fd (Aj l) i)).data.size:Nat):Int)<=200000;simp[Ck];omega
 have hk:=@Ja.eq_def rb (fd (Aj l) 0);have ht:=@WC.eq_def S l (Aj l);by_cases h:fd (Aj l) 0=[100,105,97,108,101,99,116]
 ·rw[if_pos h]at hk ht
  refine .inr ⟨_,hk,_,rfl,enters_of Tryz.func53 (by kernel_rfl) rfl,?_⟩;rintro w fb hB HFA⟨sH,sR,sP,sO,bv,hm⟩;rw[ht];exact Ko B S rb sb nb ob mf km sH sR sP sO bv (Aj l) fb (Aj l).length w hB hm HFA HL hbd
 rw[if_neg h]at hk ht;clear h;by_cases h:fd (Aj l) 0=[104,101,97,112]
 ·rw[if_pos h]at hk ht
  refine .inr ⟨_,hk,_,rfl,enters_of Tryz.func54 (by kernel_rfl) rfl,?_⟩;rintro w fb hB HFA⟨sH,sR,sP,sO,bv,hm⟩;rw[ht];exact Pt B S rb sb nb ob mf km sH sR sP sO bv (Aj l) fb (Aj l).length w hB hm HFA HL hbd
 rw[if_neg h]at hk ht;clear h;by_cases h:fd (Aj l) 0=[114,101,103]
 ·rw[if_pos h]at hk ht
  refine .inr ⟨_,hk,_,rfl,enters_of Tryz.func55 (by kernel_rfl) rfl,?_⟩;rintro w fb hB HFA⟨sH,sR,sP,sO,bv,hm⟩;rw[ht];exact SF B S rb sb nb ob mf km sH sR sP sO bv (Aj l) fb (Aj l).length w hB hm HFA HL hbd jG
 rw[if_neg h]at hk ht;clear h;by_cases h:fd (Aj l) 0=[112,114,111,99]
 ·rw[if_pos h]at hk ht
  refine .inr ⟨_,hk,_,rfl,enters_of Tryz.func56 (by kernel_rfl) rfl,?_⟩;rintro w fb hB HFA⟨sH,sR,sP,sO,bv,hm⟩;rw[ht];exact QZ B S rb sb nb ob mf km sH sR sP sO bv (Aj l) fb (Aj l).length w hB hm HFA HL hbd
 rw[if_neg h]at hk ht;clear h;by_cases h:fd (Aj l) 0=[105,102]
 ·rw[if_pos h]at hk ht
  refine .inr ⟨_,hk,_,rfl,enters_of Tryz.func57 (by kernel_rfl) rfl,?_⟩;rintro w fb hB HFA⟨sH,sR,sP,sO,bv,hm⟩;rw[ht];exact UB B S rb sb nb ob mf km sH sR sP sO bv (Aj l) fb (Aj l).length w hB hm HFA hbd
 rw[if_neg h]at hk ht;clear h;by_cases h:fd (Aj l) 0=[119,104,105,108,101]
 ·rw[if_pos h]at hk ht
  refine .inr ⟨_,hk,_,rfl,enters_of Tryz.func58 (by kernel_rfl) rfl,?_⟩;rintro w fb hB HFA⟨sH,sR,sP,sO,bv,hm⟩;rw[ht];exact Nu B S rb sb nb ob mf km sH sR sP sO bv (Aj l) fb (Aj l).length w hB hm HFA hbd
 rw[if_neg h]at hk ht;clear h;by_cases h:fd (Aj l) 0=[101,108,115,101]
 ·rw[if_pos h]at hk ht
  refine .inr ⟨_,hk,_,rfl,enters_of Tryz.func59 (by kernel_rfl) rfl,?_⟩;rintro w fb hB HFA⟨sH,sR,sP,sO,bv,hm⟩;rw[ht];exact PE B S rb sb nb ob mf km sH sR sP sO bv (Aj l) fb (Aj l).length w hB hm hbd
 rw[if_neg h]at hk ht;clear h;by_cases h:fd (Aj l) 0=[101,110,100]
 ·rw[if_pos h]at hk ht
  refine .inr ⟨_,hk,_,rfl,enters_of Tryz.func60 (by kernel_rfl) rfl,?_⟩;rintro w fb hB HFA⟨sH,sR,sP,sO,bv,hm⟩;rw[ht];exact Qt B S rb sb nb ob mf km sH sR sP sO bv (Aj l) fb (Aj l).length w hB hm hbd
 rw[if_neg h]at hk ht;clear h;by_cases h:fd (Aj l) 0=[99,97,108,108]
 ·rw[if_pos h]at hk ht
  refine .inr ⟨_,hk,_,rfl,enters_of Tryz.func61 (by kernel_rfl) rfl,?_⟩;rintro w fb hB HFA⟨sH,sR,sP,sO,bv,hm⟩;rw[ht];exact Qj B S rb sb nb ob mf km sH sR sP sO bv (Aj l) fb (Aj l).length w hB hm HFA HL hbd
 rw[if_neg h]at hk ht;clear h;by_cases h:1<=Cg (fd (Aj l) 0)/\Cg (fd (Aj l) 0)<=28
 ·rw[if_pos h]at hk ht
  refine .inr ⟨_,hk,_,rfl,enters_of Tryz.func62 (by kernel_rfl) rfl,?_⟩;rintro w fb hB HFA⟨sH,sR,sP,sO,bv,hm⟩;rw[ht];exact RU B S rb sb nb ob mf km sH sR sP sO bv l fb w hB hm HFA hbd hl
 ·rw[if_neg h]at hk ht
  exact .inl ⟨hk,ht⟩
theorem Xf(B:Nat)(S:PS)(rb sb nb ob mf km:Nat)(sH sR sP sO:Sl)(bv:List Value)(l:List UInt8)(w:World)(hB:B<=w.heap.size)(hm:PR w B S rb sb nb ob mf km sH sR sP sO bv)(hbd:Ie S 100000)(hl:(l.length:Int)<=199999):
 Calls Tryz.prog 32 #[Vq rb,.string (Ck l)] w fun e w'=>PA B w rb sb nb ob mf km (Eb S l) e w':=by
 rw[<-aM hm.I l];obtain⟨RR,hRR⟩:=Ae (WC S l (Aj l));rw[hRR];have HRR:=hxy hRR;have M:=hxy hm;have HBD:=hxy hbd;clear hm hRR hbd;obtain⟨ls,hls⟩:=Ae (Ck l);have HLS:=hxy hls;rw[hls];clear hls;go_enter Tryz.func32,Tryz.ntmps32;go_wp2_with fail;rw[<-HLS.out];refine(Vu l w M.out.E (by omega)).mono ?_;rintro e u⟨rfl,hb,hfa⟩;have M1:=hxy (M.out.below hb);have F1:Hid (Fm GL B w u):=Fm.of_below hb hB;obtain⟨fb,hfb⟩:=Ae w.heap.size;rw[hfb]at hfa⊢;have A1:=hxy hfa;have hBu:B<=u.heap.size:=by have:=hb.size;omega
 obtain⟨f0,hf0⟩:=Ae (fd (Aj l) 0);have hfl:=List.length_pos_iff.2 (GZ l);have r0:∀w':World,Below u.heap.size u w'->w'.cell? (Va fb 0)=some (.string (Ck f0)):=fun w' h=>((A1.out.below h).cell 0 hfl).trans (by rw[hf0])
 have r1:∀w':World,Below u.heap.size u w'->w'.cell? (Va rb 15)=some (.map (some km)):=fun w' h=>(M1.out.below h).cells.2.2.2.2.2.2.2.1
 have KX:=Yp B rb sb nb ob mf km S l HBD.out hl;rw[hf0]at KX;obtain⟨kv,hkv⟩:=Ae ((Ja rb f0).getD .nilFunc);obtain⟨kb,hkb⟩:=Ae ((Ja rb f0).isSome);have r2:∀w':World,Below u.heap.size u w'->(Instr.lookup 83 (.map (some km)) (.string (Ck f0)) true).run Tryz.prog w'=.ok (.tuple #[kv,.bool kb]) w':=fun w' h=>by
  obtain⟨o,h1,h2,h3⟩:=(M1.out.below h).K;have hz:(Ck f0).size<=maxLen:=by
   have:(fd (Aj l) 0).length<=l.length:=Rz l 0;rw[<-hf0];show(Ck (fd (Aj l) 0)).data.size<=_;simp[Ck,maxLen];omega
  have q:=h3 w' h1 (Ck f0) hz;rw[Jh,hkv,hkb]at q;exact q
 have HKV:=hxy hkv;have HKB:=hxy hkb;have HKX:Hid _:=KX;clear hb hfa hfb hf0 hkv hkb KX;go_upto_region 2 with fail;refine wp_region_held_drew (S:=fun w'=>Below u.heap.size u w') (by kernel_rfl) (Below.refl _ _).drew (fun hHeld=>?_);generalize u.drew=t0 at hHeld⊢;refine AB 0 rfl ?_;refine AB 1 rfl ?_;refine AB 2 rfl ?_;refine AB 3 rfl ?_;refine AB 4 rfl ?_;refine AB 5 rfl ?_;refine AB 6 rfl ?_;refine AB 7 rfl ?_;refine AB 8 rfl ?_;refine AB 9 rfl ?_;refine AB 10 rfl ?_;refine AB 11 rfl ?_;refine AB 12 rfl ?_;refine wpAnyH_done (by kernel_rfl) ?_ _;have M2:=hxy (M1.out.below hHeld);have F2:=hxy (F1.out.below hHeld hBu);have A2:=hxy (A1.out.below hHeld);have hB2:B<=t0.heap.size:=by have:=hHeld.size;omega
 clear hHeld r0 r1 r2 M1 F1 A1;rcases HKX.out with⟨k1,k2⟩|⟨v,k1,k,k2,k4,k3⟩
 ·have e1:=HKB.out
  rw[k1]at e1;have HN:Hid (RR=none):=(by rw[<-HRR.out];exact k2:RR=none)
  simp only[Option.isSome_none]at e1;subst e1;clear k1 k2;go_wp2_with fail;go_ret;rw[HN.out];exact⟨F2.out,rfl,fun _ h=>(by cases h)⟩
 ·have e1:=HKB.out
  have e2:=HKV.out;rw[k1]at e1 e2;simp only[Option.isSome_some]at e1;simp only[Option.getD_some]at e2;subst e1;rw[<-e2,k2];have K3:Hid _:=k3;clear k1 k2 e2 HKV HKB HKX k3;go_wp2_with fail;refine(K3.out t0 fb hB2 A2.out ⟨_,_,_,_,_,M2.out⟩).mono ?_;rw[HRR.out];rintro e t1⟨f3,rfl,p3⟩;have HFIN:Hid (PA B w rb sb nb ob mf km RR (.returned (.bool RR.isSome)) t1):=⟨F2.out.trans f3,rfl,p3⟩
  clear f3 p3;go_wp2_with fail;go_ret;exact HFIN.out
def Vqa(v:Value):Option (DataW Value×List MemPlace):=some (.held v,[])
def Gl(w:World)(km n:Nat)(F:List UInt8->Option Value):Prop:=
 ∃D,w.ownsMap Tryz.prog 9 Vqa km n D/\Maps.IsMap D/\∀l z,D.atKey (.string l) z=((F l).map DataW.held).getD z
theorem Gl.congr{km:Nat}{G:List UInt8->Option Value}(h:Gl w km n F)(e:∀l,F l=G l):Gl w km n G:=by
 have:F=G:=funext e;rw[<-this];exact h
theorem Gl.made(w:World):Gl (w.alloc (.map #[] 0)) w.heap.size 0 (fun _=>none):=⟨_,World.ownsMap_made _ _ _ _,⟨_,rfl⟩,fun _ _=>rfl⟩
theorem Gl.block{w':World}{km:Nat}(h:Gl w km n F)(e:w'.heap[km]?=w.heap[km]?):Gl w' km n F:=by
 obtain⟨D,⟨es,c,h1,h2⟩,hm,ha⟩:=h;exact⟨D,⟨es,c,e.trans h1,h2⟩,hm,ha⟩
theorem Gl.put{km:Nat}(h:Gl w km n F)(hn:n<1000)(s:ByteArray)(hs:s.size<=100)(v:Value):
 ∃w',(Instr.mapUpdate 83 (.map (some km)) (.string s) v).run Tryz.prog w=.ok () w'/\Gl w' km (n+1) (fun l=>if l=s.data.toList then some v else F l)/\w.grownBy w' (some km):=by
 obtain⟨D,h1,hm,ha⟩:=h;have hz:s.size<=maxLen:=by unfold maxLen;omega
 obtain⟨w',r1,r2,r3⟩:=h1.update (Maps.string_keyed Tryz.underlying9) Tryz.underlying83 (by unfold maxLen;omega) (val:=v) (d:=.held v) (ps:=[]) (WideMaps.keyOf_string_mk Tryz.underlying9 hz) rfl;refine⟨w',r1,⟨_,r2,?_,fun l z=>?_⟩,r3⟩
 ·obtain⟨es,rfl⟩:=hm
  exact⟨_,rfl⟩
 ·show _=((if l=s.data.toList then some v else F l).map DataW.held).getD z
  by_cases e:l=s.data.toList
  ·rw[if_pos e,e,Maps.atKey_put_same hm (show WideAt.IsKeyLit (.string s.data.toList)from trivial)]
   rfl
  ·rw[if_neg e,Maps.atKey_put_other (by intro h;injection h with h;exact e h),ha]
theorem Gl.km{km:Nat}(h:Gl w km n (Ja rb)):KM w km rb:=by
 obtain⟨D,⟨es,c,h1,h2⟩,hm,ha⟩:=h;refine⟨_,h1,fun c t f=>by simp,fun w' hw s hs=>?_⟩;have hD:w'.ownsMap Tryz.prog 9 Vqa km n D:=⟨es,c,hw,h2⟩
 obtain⟨v,ps,r1,r2⟩:=hD.look_ok (Maps.string_keyed Tryz.underlying9) Tryz.underlying83 (z:=.nilFunc) (by kernel_rfl) (zd:=.held .nilFunc) (zp:=[]) rfl (WideMaps.keyOf_string_mk Tryz.underlying9 hs);rw[ha]at r2;rw[r1];cases hk:Ja rb s.data.toList with
 |none=>
  rw[hk]at r2;have hh:Maps.has D (.string s.data.toList)=false:=Maps.has_false_of_atKey (fun z=>by rw[ha,hk];rfl);rw[hh];unfold Vqa at r2;have:v=.nilFunc:=by simpa using(congrArg (fun o=>o.map Prod.fst) r2)
  rw[this];rfl
 |some x=>
  rw[hk]at r2;have hh:Maps.has D (.string s.data.toList)=true:=Maps.has_true_of_atKey (y:=.held x) (fun z=>by rw[ha,hk];rfl);rw[hh];unfold Vqa at r2;have:v=x:=by simpa using(congrArg (fun o=>o.map Prod.fst) r2)
  rw[this];rfl
def Ih(k rb:Nat):Value:=.func (.func k) #[Vq rb] #[]
def Qb(rb k:Nat)(l:List UInt8):Option Value:=
 if l=[100,105,97,108,101,99,116]then some (Ih 53 rb)
 else if l=[104,101,97,112]then some (Ih 54 rb)
 else if l=[114,101,103]then some (Ih 55 rb)
 else if l=[112,114,111,99]then some (Ih 56 rb)
 else if l=[105,102]then some (Ih 57 rb)
 else if l=[119,104,105,108,101]then some (Ih 58 rb)
 else if l=[101,108,115,101]then some (Ih 59 rb)
 else if l=[101,110,100]then some (Ih 60 rb)
 else if l=[99,97,108,108]then some (Ih 61 rb)
 else if 1<=Cg l/\Cg l<=k then some (Ih 62 rb)else none
def iG:List (List UInt8):=[[100,105,97,108,101,99,116],[104,101,97,112],[114,101,103],[112,114,111,99],[105,102],[119,104,105,108,101],[101,108,115,101],[101,110,100],[99,97,108,108]]
theorem fH:∀k:Nat,k<28->KW ((k:Int)+1)∉iG:=by decide
theorem WV(rb k:Nat)(hk:k<28)(l:List UInt8):(if l=KW ((k:Int)+1)then some (Ih 62 rb)else Qb rb k l)=Qb rb (k+1) l:=by
 have h3:=(Mq (op:=(k:Int)+1) (by omega) (by omega)).2.2;by_cases e:l=KW ((k:Int)+1)
 ·have hn:l∉iG:=by rw[e];exact fH k hk
  have ho:Cg l=(k:Int)+1:=by rw[e];exact h3
  rw[if_pos e];simp only[iG,List.mem_cons,List.not_mem_nil,or_false,not_or]at hn;obtain⟨a1,a2,a3,a4,a5,a6,a7,a8,a9⟩:=hn;unfold Qb;rw[if_neg a1,if_neg a2,if_neg a3,if_neg a4,if_neg a5,if_neg a6,if_neg a7,if_neg a8,if_neg a9,if_pos ⟨by omega,by omega⟩]
 ·rw[if_neg e]
  have ho:Cg l≠(k:Int)+1:=fun q=>e (by
   obtain⟨_,_,q3⟩:=IL q (by omega);exact q3)
  have hc:(1<=Cg l/\Cg l<=(k:Int))↔(1<=Cg l/\Cg l<=((k+1:Nat):Int)):=by omega
  unfold Qb;simp only[hc]
theorem Vy(rb:Nat)(l:List UInt8):
 (if l=[99,97,108,108]then some (Ih 61 rb)
 else if l=[101,110,100]then some (Ih 60 rb)
 else if l=[101,108,115,101]then some (Ih 59 rb)
 else if l=[119,104,105,108,101]then some (Ih 58 rb)
 else if l=[105,102]then some (Ih 57 rb)
 else if l=[112,114,111,99]then some (Ih 56 rb)
 else if l=[114,101,103]then some (Ih 55 rb)
 else if l=[104,101,97,112]then some (Ih 54 rb)
 else if l=[100,105,97,108,101,99,116]then some (Ih 53 rb)else none)=Qb rb 0 l:=by
 by_cases a1:l=[100,105,97,108,101,99,116]
 ·subst a1;rfl
 by_cases a2:l=[104,101,97,112]
 ·subst a2;rfl
 by_cases a3:l=[114,101,103]
 ·subst a3;rfl
 by_cases a4:l=[112,114,111,99]
 ·subst a4;rfl
 by_cases a5:l=[105,102]
 ·subst a5;rfl
 by_cases a6:l=[119,104,105,108,101]
 ·subst a6;rfl
 by_cases a7:l=[101,108,115,101]
 ·subst a7;rfl
 by_cases a8:l=[101,110,100]
 ·subst a8;rfl
 by_cases a9:l=[99,97,108,108]
 ·subst a9;rfl
 unfold Qb;rw[if_neg a1,if_neg a2,if_neg a3,if_neg a4,if_neg a5,if_neg a6,if_neg a7,if_neg a8,if_neg a9,if_neg a1,if_neg a2,if_neg a3,if_neg a4,if_neg a5,if_neg a6,if_neg a7,if_neg a8,if_neg a9,if_neg (by omega)]
theorem Jk{r:Nat}{c:Array Value}{t:TypeId}{f:Nat×Nat}(h:w.heap[r]?=some (.cells c t f)):∀o u,(getObj r).run Tryz.prog w≠ .ok o u:=by intro o u;simp[getObj,Sem.run,h]
theorem Zq(h:Fe w ob):∀o,w.heap[ob]?=some o->∀c t f,o≠ .cells c t f:=by
 obtain⟨o,h1,h2⟩:=h;intro o' ho c t f e;rw[h1]at ho;cases ho;subst e;have:=h2 w h1 ⟨#[]⟩ (by decide);simp[Instr.lookup,run_underlying Tryz.underlying104,go_sem]at this;cases hg:(getObj ob).run Tryz.prog w with
 |ok o u=>exact Jk h1 o u hg
 |_=>rw[hg]at this;cases this
theorem WR{mb:Nat}(h:GN w mb):∀o,w.heap[mb]?=some o->∀c t f,o≠ .cells c t f:=by
 obtain⟨o,h1,h2⟩:=h;intro o' ho c t f e;rw[h1]at ho;cases ho;subst e;have:=h2 w h1 0 3 (by decide);simp[Instr.lookup,run_underlying Tryz.underlying105,go_sem]at this;cases hg:(getObj mb).run Tryz.prog w with
 |ok o u=>exact Jk h1 o u hg
 |_=>rw[hg]at this;cases this
theorem NQ(P:Program)(w:World)(dT sT ty elem:TypeId)(z g o dLen dCap:Nat)(a:Addr)(sLen sCap:Nat)(cur:Array Value)(t:TypeId)(cs:List Value)
 (hu:P.underlying dT=some (.slice elem))(hs:(P.info? elem).map (·.size)=some z)
 (hg:w.heap[g]?=some (.cells cur t (0,0)))(hn:cs.length=Nat.min sLen dLen*z)
 (hsrc:∀j v,cs[j]?=some v->w.cell? (a.add j)=some v)(hfit:o+cs.length<=cur.size)(h1:∀v∈cs,v.oneCell'=true):
 (Builtin.copy_ #[dT,sT] ty #[.slice (some ⟨g,o,none⟩) dLen dCap,.slice (some a) sLen sCap]).run P w=
   .ok (goInt (Nat.min sLen dLen:Nat)) (w.setRow g (cur.toList.take o++cs++cur.toList.drop (o+cs.length)).toArray):=by
 have hl:=run_loadCells_list (P:=P) w a cs hsrc;have hst:=run_storeCells_at P g o t cs 0 cur w hg (by simpa using hfit) h1;cases hq:P.info? elem with
 |none=>simp[hq]at hs
 |some i=>
  have hi:i.size=z:=by simpa[hq]using hs
  simp[Builtin.copy_,run_underlying hu,Builtin.lenOf,Builtin.firstCells,sizeOf,typeInfo,hq,hi,<-hn,hl,hst]
theorem ZR(w:World):Calls Tryz.prog 118 #[.int .u64 1,.int .u64 8] w fun e w'=>e=.returned (.tuple #[.int .u64 0,.int .u64 8])/\w'=w:=by
 go_enter Tryz.func118,Tryz.ntmps118;go_wp2_with fail;exact bodyPost_ret (v:=.tuple #[.int .u64 0,.int .u64 8]) (by simp[results,Tryz.results118,go_sem];kernel_rfl) rfl ⟨rfl,rfl⟩
theorem eY(w:World):Calls Tryz.prog 85 #[.int .u64 1,.int .u64 8] w fun e w'=>e=.returned (.tuple #[.int .u64 0,.int .u64 8])/\w'=w:=by
 go_enter Tryz.func85,Tryz.ntmps85;go_wp2_with fail;refine(ZR w).mono ?_;rintro e w1⟨rfl,rfl⟩;go_wp2_with fail;exact bodyPost_ret (v:=.tuple #[.int .u64 0,.int .u64 8]) (by simp[results,Tryz.results85,go_sem]) rfl ⟨rfl,rfl⟩
def fM:List Value:=[Vi 0,.bool true,Vi (-1),Vi 0,Vi 0,Vi 0]
def iw:List Value:=[Vi 0,.bool false,Vi 0,Vi 0,Vi 0,Vi 0]
def FW(k:Nat):List Value:=(List.replicate k fM++List.replicate (8-k) iw).flatten
theorem MJ(g k:Nat)(hk:k=1∨k=2∨k=4)(w:World)(hw:w.heap[g]?=some (.cells (FW k).toArray 42)):(Builtin.copy_ #[24,24] 3 #[.slice (some ⟨g,6*k,none⟩) (8-k) (8-k),Vs g k 8]).run Tryz.prog w=.ok (Vi (k:Int)) (w.setRow g (FW (2*k)).toArray):=by
 have h:=NQ Tryz.prog w 24 24 3 42 6 g (6*k) (8-k) (8-k) ⟨g,0,none⟩ k 8 (FW k).toArray 42 ((FW k).take (6*k)) Tryz.underlying24 (by kernel_rfl) hw (by rcases hk with rfl|rfl|rfl<;>rfl) (fun j v hv=>by
  have hlt:j<6*k:=by
   have:=(List.getElem?_eq_some_iff.1 hv).1;rw[List.length_take]at this;omega
  rw[List.getElem?_take,if_pos hlt]at hv;have ha:(⟨g,0,none⟩:Addr).add j=⟨g,j,none⟩:=by unfold Addr.add;split<;>simp_all
  rw[ha,AV hw j,List.getElem?_toArray,hv]) (by rcases hk with rfl|rfl|rfl<;>decide) (by rcases hk with rfl|rfl|rfl<;>decide)
 rw[h];rcases hk with rfl|rfl|rfl<;>rfl
theorem UW(b:Nat)(w:World)(hb:w.heap[b]?=some (.cells fM.toArray 42)):
 Calls Tryz.prog 52 #[Vs b 1 1,Vi 8] w fun e w'=>e=.returned (Vs w.heap.size 8 8)/\w'.heap[w.heap.size]?=some (.cells (FW 8).toArray 42)/\Below w.heap.size w w':=by
 have hms:∀w:World,(Instr.makeSlice 24 (Vi 8) (Vi 8)).run Tryz.prog w=.ok (Vs w.heap.size 8 8) (w.alloc (.cells (FW 0).toArray 42)):=by intro w;kernel_rfl
 have HB:=hxy hb;clear hb;go_enter Tryz.func52,Tryz.ntmps52;go_wp2_with fail;refine(eY w).mono ?_;rintro e w1⟨rfl,hw1⟩;rw[hw1];clear hw1;go_upto_region 7 with fail;obtain⟨g,hg⟩:=Ae w.heap.size;have HG:=hxy hg;obtain⟨u,hu,bu,cu,cb⟩:∃y,w.alloc (.cells (FW 0).toArray 42)=y/\Hid (Below w.heap.size w y)/\Hid (y.heap[g]?=some (.cells (FW 0).toArray 42))/\Hid (y.heap[b]?=some (.cells fM.toArray 42)):=by
  refine⟨_,rfl,Ak,?_,?_⟩
  ·show _=_
   rw[<-hg];exact Ai _ _
  ·exact((Ak:Below w.heap.size w _).block b (jH.1 HB.out).1).trans HB.out
 rw[hu,hg];clear hu hg hms;have hcp:(Builtin.copy_ #[24,24] 3 #[Vs g 8 8,Vs b 1 1]).run Tryz.prog u=.ok (Vi 1) (u.setRow g (FW 1).toArray):=by
  have h:=NQ Tryz.prog u 24 24 3 42 6 g 0 8 8 ⟨b,0,none⟩ 1 1 (FW 0).toArray 42 fM Tryz.underlying24 (by kernel_rfl) cu.out rfl (fun j v hv=>by
   have ha:(⟨b,0,none⟩:Addr).add j=⟨b,j,none⟩:=by unfold Addr.add;split<;>simp_all
   rw[ha,AV cb.out j,List.getElem?_toArray,hv]) (by decide) (by decide)
  rw[h];rfl
 go_wp2_with fail;obtain⟨u1,hu1,b1,c1⟩:∃y,u.setRow g (FW 1).toArray=y/\Hid (Below w.heap.size w y)/\Hid (y.heap[g]?=some (.cells (FW 1).toArray 42)):=⟨_,rfl,below_setRow bu.out (Nat.le_of_eq HG.out) _,setRow_heap u g _ _ _ _ cu.out⟩
 rw[hu1];clear hu1 hcp bu cu cb;go_loopw [8](fun nv wr=>∃k:Nat,(k=1∨k=2∨k=4∨k=8)/\nv=Vi k/\Below w.heap.size w wr/\wr.heap[g]?=some (.cells (FW k).toArray 42))(fun nv _=>8-(intOf nv).toNat)
 case atStart=>exact⟨1,.inl rfl,rfl,b1.out,c1.out⟩
 case round=>
  clear b1 c1;obtain⟨k,hk,rfl,hb,hc⟩:=hrel;have HB:=hxy hb;have HC:=hxy hc;clear hb hc;by_cases h8:k=8
  ·subst h8
   go_wp2_with fail;go_ret;have e:=HG.out;exact⟨by rw[e];rfl,by rw[e];exact HC.out,HB.out⟩
  rcases hk with rfl|rfl|rfl|rfl
  ·obtain⟨t1,ht1,hb1,hc1⟩:∃y,wr.drew.setRow g (FW 2).toArray=y/\Hid (Below w.heap.size w y)/\Hid (y.heap[g]?=some (.cells (FW 2).toArray 42)):=⟨_,rfl,below_setRow (HB.out.trans ((Below.refl _ _).drew.mono HB.out.size)) (Nat.le_of_eq HG.out) _,setRow_heap wr.drew g _ _ _ _ HC.out⟩
   have hcp:(Builtin.copy_ #[24,24] 3 #[.slice (some ⟨g,6,none⟩) 7 7,Vs g 1 8]).run Tryz.prog wr.drew=.ok (Vi 1) t1:=by
    rw[<-ht1];exact MJ g 1 (by decide) wr.drew HC.out
   clear ht1;go_upto_region 9 with fail;refine wp_region_held_drew (S:=fun _=>True) (by kernel_rfl) trivial (fun hHeld=>?_);generalize wr.drew=t0 at hcp⊢;refine AB 0 rfl ?_;refine AB 1 rfl ?_;refine AB 2 rfl ?_;refine AB 3 rfl ?_;refine AB 4 rfl ?_;refine AB 5 rfl ?_;refine AB 6 rfl ?_;refine AO 7 rfl (fun KK hK=>?_);go_simp;refine hK.out _ _ trivial (fun hHeld1=>?_);clear hK KK hcp;try simp only[Act.put,BP,BN,BK,BQ,BS,BM]
   refine AB 8 rfl ?_;refine AB 9 rfl ?_;refine wpAnyH_done (by kernel_rfl) ?_ _;go_wp2_with fail;exact⟨⟨2,by decide,rfl,hb1.out,hc1.out⟩,by decide⟩
  ·obtain⟨t1,ht1,hb1,hc1⟩:∃y,wr.drew.setRow g (FW 4).toArray=y/\Hid (Below w.heap.size w y)/\Hid (y.heap[g]?=some (.cells (FW 4).toArray 42)):=⟨_,rfl,below_setRow (HB.out.trans ((Below.refl _ _).drew.mono HB.out.size)) (Nat.le_of_eq HG.out) _,setRow_heap wr.drew g _ _ _ _ HC.out⟩
   have hcp:(Builtin.copy_ #[24,24] 3 #[.slice (some ⟨g,12,none⟩) 6 6,Vs g 2 8]).run Tryz.prog wr.drew=.ok (Vi 2) t1:=by
    rw[<-ht1];exact MJ g 2 (by decide) wr.drew HC.out
   clear ht1;go_upto_region 9 with fail;refine wp_region_held_drew (S:=fun _=>True) (by kernel_rfl) trivial (fun hHeld=>?_);generalize wr.drew=t0 at hcp⊢;refine AB 0 rfl ?_;refine AB 1 rfl ?_;refine AB 2 rfl ?_;refine AB 3 rfl ?_;refine AB 4 rfl ?_;refine AB 5 rfl ?_;refine AB 6 rfl ?_;refine AO 7 rfl (fun KK hK=>?_);go_simp;refine hK.out _ _ trivial (fun hHeld1=>?_)
   clear hK KK hcp
   try simp only[Act.put,BP,BN,BK,BQ,BS,BM]
   refine AB 8 rfl ?_
   refine AB 9 rfl ?_
   refine wpAnyH_done (by kernel_rfl) ?_ _
   go_wp2_with fail
   exact⟨⟨4,by decide,rfl,hb1.out,hc1.out⟩,by decide⟩
  ·obtain⟨t1,ht1,hb1,hc1⟩:∃y,wr.drew.setRow g (FW 8).toArray=y/\Hid (Below w.heap.size w y)/\Hid (y.heap[g]?=some (.cells (FW 8).toArray 42)):=⟨_,rfl,below_setRow (HB.out.trans ((Below.refl _ _).drew.mono HB.out.size)) (Nat.le_of_eq HG.out) _,setRow_heap wr.drew g _ _ _ _ HC.out⟩
   have hcp:(Builtin.copy_ #[24,24] 3 #[.slice (some ⟨g,24,none⟩) 4 4,Vs g 4 8]).run Tryz.prog wr.drew=.ok (Vi 4) t1:=by
    rw[<-ht1]
    exact MJ g 4 (by decide) wr.drew HC.out
   clear ht1
   go_upto_region 9 with fail
   refine wp_region_held_drew (S:=fun _=>True) (by kernel_rfl) trivial (fun hHeld=>?_)
   generalize wr.drew=t0 at hcp⊢
   refine AB 0 rfl ?_
   refine AB 1 rfl ?_
   refine AB 2 rfl ?_
   refine AB 3 rfl ?_
   refine AB 4 rfl ?_
   refine AB 5 rfl ?_
   refine AB 6 rfl ?_
   refine AO 7 rfl (fun KK hK=>?_)
   go_simp
   refine hK.out _ _ trivial (fun hHeld1=>?_)
   clear hK KK hcp
   try simp only[Act.put,BP,BN,BK,BQ,BS,BM]
   refine AB 8 rfl ?_
   refine AB 9 rfl ?_
   refine wpAnyH_done (by kernel_rfl) ?_ _
   go_wp2_with fail
   exact⟨⟨8,by decide,rfl,hb1.out,hc1.out⟩,by decide⟩
  ·exact absurd rfl h8
structure NR(w:World)(rb sb nb ob mf gR:Nat)(cs:Array Value)(v:World):Prop where
 SC:SC v sb nb ob mf 1
 OA:Fe v ob
 C:v.heap[rb]?=some (.cells cs 85)
 G:v.heap[gR]?=some (.cells (FW 8).toArray 42)
 b:Below w.heap.size w v
theorem NR.grown{v':World}{km:Nat}(h:NR w rb sb nb ob mf gR cs v)(g:v.grownBy v' (some km))(z:w.heap.size<=km)(k1:sb<km)(k2:nb<km)(k3:ob<km)(k4:mf<km)(k5:rb<km)(k6:gR<km):NR w rb sb nb ob mf gR cs v':=by
 have kp:∀{q:Nat}{o:Obj},q<km->v.heap[q]?=some o->v'.heap[q]?=some o:=fun{q o}hq hh=>(g.block q (jH.1 hh).1 (by intro e;cases e;omega)).trans hh
 obtain⟨oo,o1,o2⟩:=h.OA;obtain⟨om,m1,m2⟩:=h.SC.M;exact⟨⟨kp k1 h.SC.S,kp k2 h.SC.N,om,kp k4 m1,m2⟩,⟨oo,kp k3 o1,o2⟩,kp k5 h.C,kp k6 h.G,h.b.grown g h.b.size (by intro q e;cases e;omega)⟩
theorem NR.below{v':World}(h:NR w rb sb nb ob mf gR cs v)(g:Below v.heap.size v v'):NR w rb sb nb ob mf gR cs v':=by
 have kp:∀{q:Nat}{o:Obj},v.heap[q]?=some o->v'.heap[q]?=some o:=fun{q o}hh=>(g.block q (jH.1 hh).1).trans hh
 obtain⟨oo,o1,o2⟩:=h.OA;obtain⟨om,m1,m2⟩:=h.SC.M;exact⟨⟨kp h.SC.S,kp h.SC.N,om,kp m1,m2⟩,⟨oo,kp o1,o2⟩,kp h.C,kp h.G,h.b.trans (g.mono h.b.size)⟩
theorem NR.set(h:NR w rb sb nb ob mf gR cs v)(z:w.heap.size<=rb)(k1:sb≠rb)(k2:nb≠rb)(k3:ob≠rb)(k4:mf≠rb)(k6:gR≠rb)(i:Nat)(x:Value):NR w rb sb nb ob mf gR (cs.setIfInBounds i x) (v.setCell (Va rb i) x):=by
 have kp:∀{q:Nat}{o:Obj},q≠rb->v.heap[q]?=some o->(v.setCell (Va rb i) x).heap[q]?=some o:=fun{q o}hq hh=>(Below.heap_setCell _ _ _ _ hq).trans hh
 obtain⟨oo,o1,o2⟩:=h.OA;obtain⟨om,m1,m2⟩:=h.SC.M;exact⟨⟨kp k1 h.SC.S,kp k2 h.SC.N,om,kp k4 m1,m2⟩,⟨oo,kp k3 o1,o2⟩,Bq h.C i x,kp k6 h.G,h.b.setCell z x⟩
theorem Vo(h:w.heap[gR]?=some (.cells (FW 8).toArray 42))(hB:B<=gR):Et w B (Df (MB ps0 (.slice none 0 0)) ps0.hs ps0.rg (LZ ps0) (.slice none 0 0) (Vs gR 8 8) (.slice none 0 0) []):=by
 have e:Df (MB ps0 (.slice none 0 0)) ps0.hs ps0.rg (LZ ps0) (.slice none 0 0) (Vs gR 8 8) (.slice none 0 0) []=[⟨179,2,.slice none 0 0,0,[]⟩,⟨40,3,.slice none 0 0,0,[]⟩,⟨42,6,Vs gR 8 8,8,FW 8⟩,⟨38,1,.slice none 0 0,0,[]⟩]:=rfl;rw[e];have nl:∀t z,w.ownsRow B t z (.slice none 0 0) 0 []:=fun t z=>⟨by simp,.inl ⟨rfl,rfl⟩⟩
 refine⟨fun j r hj=>?_,fun i j a b hij ha hb=>?_⟩
 ·match j,hj with
  |0,hj=>cases hj;exact nl _ _
  |1,hj=>cases hj;exact nl _ _
  |2,hj=>cases hj;exact⟨rfl,.inr ⟨gR,8,_,rfl,hB,h,jG,by decide,rfl,rfl⟩⟩
  |3,hj=>cases hj;exact nl _ _
  |j+4,hj=>simp at hj
 ·intro k hk hk'
  match i,j,ha,hb with
  |0,_,ha,_=>cases ha;cases hk
  |1,_,ha,_=>cases ha;cases hk
  |2,0,_,hb=>cases hb;cases hk'
  |2,1,_,hb=>cases hb;cases hk'
  |2,2,_,_=>exact hij rfl
  |2,3,_,hb=>cases hb;cases hk'
  |2,j+4,_,hb=>simp at hb
  |3,_,ha,_=>cases ha;cases hk
  |i+4,_,ha,_=>simp at ha
theorem ND(B:Nat)(w:World)(hE:Env w B)(hB:B<=w.heap.size):
 Calls Tryz.prog 30 #[] w fun e w'=>∃(rb sb nb ob mf km:Nat)(sR:Sl),e=.returned (Vq rb)/\Below w.heap.size w w'/\PR w' B ps0 rb sb nb ob mf km ⟨none,0,0⟩ sR ⟨none,0,0⟩ ⟨none,0,0⟩ []:=by
 have HE:=hxy hE;clear hE;go_enter Tryz.func30,Tryz.ntmps30;go_wp2_with fail;refine(Im 1 w HE.out.sp).mono ?_;rintro e w1⟨sb,nb,ob,mf,rfl,sc,hb,l1,l2,l3,l4,oa,z0,z1,z2,z3⟩;have P1:Hid (SC w1 sb nb ob mf 1/\Fe w1 ob/\Below w.heap.size w w1):=⟨sc,oa,hb⟩
 have ZZ:Hid (w.heap.size<=nb/\nb<ob/\ob<mf/\mf<sb/\sb<w1.heap.size):=⟨z0,z1,z2,z3,l1⟩
 clear sc hb l1 l2 l3 l4 oa z0 z1 z2 z3;go_upto_region 2 with fail;obtain⟨rb,hrb⟩:=Ae w1.heap.size;have Z1:Hid (w.heap.size<=nb/\nb<ob/\ob<mf/\mf<sb/\sb<rb):=(by have:=ZZ.out;omega:w.heap.size<=nb/\nb<ob/\ob<mf/\mf<sb/\sb<rb)
 obtain⟨u,hu,p2,cu,zu⟩:∃y,w1.alloc (.cells #[Vi 0,.slice none 0 0,.slice none 0 0,.slice none 0 0,Vi 0,.bool false,.bool false,.bool false,.bool false,.bool false,.bool false,.bool false,.bool false,.slice none 0 0,Vq sb,.map none] 85)=y/\Hid (SC y sb nb ob mf 1/\Fe y ob/\Below w.heap.size w y)/\Hid (y.heap[rb]?=some (.cells #[Vi 0,.slice none 0 0,.slice none 0 0,.slice none 0 0,Vi 0,.bool false,.bool false,.bool false,.bool false,.bool false,.bool false,.bool false,.bool false,.slice none 0 0,Vq sb,.map none] 85))/\Hid (y.heap.size=rb+1):=by
  have hb:Below w1.heap.size w1 (w1.alloc (.cells #[Vi 0,.slice none 0 0,.slice none 0 0,.slice none 0 0,Vi 0,.bool false,.bool false,.bool false,.bool false,.bool false,.bool false,.bool false,.bool false,.slice none 0 0,Vq sb,.map none] 85)):=Ak;have z:=ZZ.out;refine⟨_,rfl,⟨P1.out.1.below hb (by omega) (by omega) (by omega),P1.out.2.1.below hb (by omega),P1.out.2.2.trans (hb.mono (by omega))⟩,?_,(by simp;omega:(w1.alloc (.cells #[Vi 0,.slice none 0 0,.slice none 0 0,.slice none 0 0,Vi 0,.bool false,.bool false,.bool false,.bool false,.bool false,.bool false,.bool false,.bool false,.slice none 0 0,Vq sb,.map none] 85)).heap.size=rb+1)⟩;show _=_;rw[<-hrb];exact Ai _ _
 rw[hu,hrb];clear hu hrb P1 ZZ;go_wp2_with fail;obtain⟨u1,hu1,p3,cu1,zu1⟩:∃y,u.alloc (.cells #[Vi 0,.bool true,Vi (-1),Vi 0,Vi 0,Vi 0] 42)=y/\Hid (Below u.heap.size u y)/\Hid (y.heap[u.heap.size]?=some (.cells fM.toArray 42))/\Hid (y.heap.size=rb+2):=⟨_,rfl,Ak,Ai _ _,(by have:=zu.out;simp;omega:(u.alloc (.cells #[Vi 0,.bool true,Vi (-1),Vi 0,Vi 0,Vi 0] 42)).heap.size=rb+2)⟩
 rw[hu1];clear hu1;refine(UW u.heap.size u1 cu1.out).mono ?_;rintro e u2⟨rfl,hg,hb2⟩;obtain⟨gR,hgR⟩:=Ae u1.heap.size;rw[hgR]at hg⊢;have ZG:Hid (gR=rb+2):=(by have:=zu1.out;omega:gR=rb+2)
 have N2:Hid (NR w rb sb nb ob mf gR #[Vi 0,.slice none 0 0,.slice none 0 0,.slice none 0 0,Vi 0,.bool false,.bool false,.bool false,.bool false,.bool false,.bool false,.bool false,.bool false,.slice none 0 0,Vq sb,.map none] u2):=(by
  have bb:=p3.out.trans (hb2.mono p3.out.size);have zu':=zu.out;have z:=Z1.out;exact⟨p2.out.1.below bb (by omega) (by omega) (by omega),p2.out.2.1.below bb (by omega),(bb.block rb (by omega)).trans cu.out,hg,p2.out.2.2.trans (bb.mono p2.out.2.2.size)⟩:NR w rb sb nb ob mf gR #[Vi 0,.slice none 0 0,.slice none 0 0,.slice none 0 0,Vi 0,.bool false,.bool false,.bool false,.bool false,.bool false,.bool false,.bool false,.bool false,.slice none 0 0,Vq sb,.map none] u2)
 have zu2:gR<u2.heap.size:=(jH.1 hg).1;have c2:=AV N2.out.C 2;simp only[List.getElem?_toArray,List.getElem?_cons_zero,List.getElem?_cons_succ]at c2;have cf:=CQ N2.out.C;clear hg hb2 p2 cu p3 cu1 zu zu1 hgR;go_upto_region 3 with fail;have N3:Hid (NR w rb sb nb ob mf gR #[Vi 0,.slice none 0 0,Vs gR 8 8,.slice none 0 0,Vi 0,.bool false,.bool false,.bool false,.bool false,.bool false,.bool false,.bool false,.bool false,.slice none 0 0,Vq sb,.map none] (u2.setCell (Va rb 2) (Vs gR 8 8))):=N2.out.set (by have:=Z1.out;omega) (by have:=Z1.out;omega) (by have:=Z1.out;omega) (by have:=Z1.out;omega) (by have:=Z1.out;omega) (by have:=ZG.out;omega) 2 _;have zu3:gR<(u2.setCell (Va rb 2) (Vs gR 8 8)).heap.size:=(jH.1 N3.out.G).1;clear c2 cf N2 zu2;generalize u2.setCell (Va rb 2) (Vs gR 8 8)=u3 at N3 zu3⊢;have hmk:∀w:World,(Instr.makeMap 83 none).run Tryz.prog w=.ok (.map (some w.heap.size)) (w.alloc (.map #[] 0)):=fun w=>run_makeMap _ w
 have hmf:∀(fn:Fn)(first cap:Array Value)(w:World),(Instr.makeFunc fn first cap).run Tryz.prog w=.ok (.func fn first cap) w:=fun _ _ _ _=>rfl
 obtain⟨km,hkm⟩:=Ae u3.heap.size;have HKM:=hxy hkm;have ZK:Hid (gR<km):=(by omega:gR<km)
 have M0:Gl (u3.alloc (.map #[] 0)) km 0 (fun _=>none):=by rw[<-hkm];exact Gl.made u3
 have N4:NR w rb sb nb ob mf gR #[Vi 0,.slice none 0 0,Vs gR 8 8,.slice none 0 0,Vi 0,.bool false,.bool false,.bool false,.bool false,.bool false,.bool false,.bool false,.bool false,.slice none 0 0,Vq sb,.map none] (u3.alloc (.map #[] 0)):=N3.out.below Ak;obtain⟨v0,hv0⟩:=Ae (u3.alloc (.map #[] 0));rw[hv0]at M0 N4;obtain⟨v1,p1,M1,g1⟩:=M0.put (by omega) ⟨#[100,105,97,108,101,99,116]⟩ (by decide) (Ih 53 rb);obtain⟨v2,p2,M2,g2⟩:=M1.put (by omega) ⟨#[104,101,97,112]⟩ (by decide) (Ih 54 rb);obtain⟨v3,p3,M3,g3⟩:=M2.put (by omega) ⟨#[114,101,103]⟩ (by decide) (Ih 55 rb);obtain⟨v4,p4,M4,g4⟩:=M3.put (by omega) ⟨#[112,114,111,99]⟩ (by decide) (Ih 56 rb);obtain⟨v5,p5,M5,g5⟩:=M4.put (by omega) ⟨#[105,102]⟩ (by decide) (Ih 57 rb);obtain⟨v6,p6,M6,g6⟩:=M5.put (by omega) ⟨#[119,104,105,108,101]⟩ (by decide) (Ih 58 rb);obtain⟨v7,p7,M7,g7⟩:=M6.put (by omega) ⟨#[101,108,115,101]⟩ (by decide) (Ih 59 rb);obtain⟨v8,p8,M8,g8⟩:=M7.put (by omega) ⟨#[101,110,100]⟩ (by decide) (Ih 60 rb);obtain⟨v9,p9,M9,g9⟩:=M8.put (by omega) ⟨#[99,97,108,108]⟩ (by decide) (Ih 61 rb);have NX:Hid (NR w rb sb nb ob mf gR #[Vi 0,.slice none 0 0,Vs gR 8 8,.slice none 0 0,Vi 0,.bool false,.bool false,.bool false,.bool false,.bool false,.bool false,.bool false,.bool false,.slice none 0 0,Vq sb,.map none] v9):=(by
  have z:=Z1.out;have zg:=ZG.out;have zk:=ZK.out;have q:∀{a b:World},a.grownBy b (some km)->NR w rb sb nb ob mf gR #[Vi 0,.slice none 0 0,Vs gR 8 8,.slice none 0 0,Vi 0,.bool false,.bool false,.bool false,.bool false,.bool false,.bool false,.bool false,.bool false,.slice none 0 0,Vq sb,.map none] a->NR w rb sb nb ob mf gR #[Vi 0,.slice none 0 0,Vs gR 8 8,.slice none 0 0,Vi 0,.bool false,.bool false,.bool false,.bool false,.bool false,.bool false,.bool false,.bool false,.slice none 0 0,Vq sb,.map none] b:=fun g h=>h.grown g (by omega) (by omega) (by omega) (by omega) (by omega) (by omega) (by omega)
  exact q g9 (q g8 (q g7 (q g6 (q g5 (q g4 (q g3 (q g2 (q g1 N4)))))))):NR w rb sb nb ob mf gR #[Vi 0,.slice none 0 0,Vs gR 8 8,.slice none 0 0,Vi 0,.bool false,.bool false,.bool false,.bool false,.bool false,.bool false,.bool false,.bool false,.slice none 0 0,Vq sb,.map none] v9)
 have MX:=hxy (M9.congr (Vy rb));clear g1 g2 g3 g4 g5 g6 g7 g8 g9 M0 M1 M2 M3 M4 M5 M6 M7 M8 M9 N4 N3;simp only[Ih]at p1 p2 p3 p4 p5 p6 p7 p8 p9;have c15:=AV NX.out.C 15;simp only[List.getElem?_toArray,List.getElem?_cons_zero,List.getElem?_cons_succ]at c15;have cf:=CQ NX.out.C;have NY:Hid (NR w rb sb nb ob mf gR #[Vi 0,.slice none 0 0,Vs gR 8 8,.slice none 0 0,Vi 0,.bool false,.bool false,.bool false,.bool false,.bool false,.bool false,.bool false,.bool false,.slice none 0 0,Vq sb,.map (some km)] (v9.setCell (Va rb 15) (.map (some km)))):=NX.out.set (by have:=Z1.out;omega) (by have:=Z1.out;omega) (by have:=Z1.out;omega) (by have:=Z1.out;omega) (by have:=Z1.out;omega) (by have:=ZG.out;omega) 15 _;have MY:Hid (Gl (v9.setCell (Va rb 15) (.map (some km))) km 9 (Qb rb 0)):=MX.out.block (Below.heap_setCell _ _ _ _ (by have:=ZG.out;have:=ZK.out;show km≠rb;omega));clear NX MX;obtain⟨v10,hv10⟩:=Ae (v9.setCell (Va rb 15) (.map (some km)));rw[hv10]at NY MY;have d14:=AV NY.out.C 14;simp only[List.getElem?_toArray,List.getElem?_cons_zero,List.getElem?_cons_succ]at d14;have d1:=AV NY.out.SC.S 1;simp only[List.getElem?_toArray,List.getElem?_cons_zero,List.getElem?_cons_succ]at d1;go_wp2_with fail;clear d14 d1 c15 cf hv10 hv0 hkm p1 p2 p3 p4 p5 p6 p7 p8 p9 hmk;go_loopw [3,47](fun _ j wr=>∃k:Nat,k<=28/\j=Vi k/\NR w rb sb nb ob mf gR #[Vi 0,.slice none 0 0,Vs gR 8 8,.slice none 0 0,Vi 0,.bool false,.bool false,.bool false,.bool false,.bool false,.bool false,.bool false,.bool false,.slice none 0 0,Vq sb,.map (some km)] wr/\Gl wr km (9+k) (Qb rb k))(fun _ j _=>28-(intOf j).toNat)
 case atStart=>exact⟨0,Nat.zero_le _,rfl,NY.out,MY.out⟩
 case round=>
  clear NY MY;obtain⟨k,hk,rfl,n1,m1⟩:=hrel;have NN:=hxy n1;have MM:=hxy m1;clear n1 m1;by_cases hlt:k<28
  rotate_left
  ·obtain rfl:k=28:=by omega
   go_wp2_with fail;go_ret;have z:=Z1.out;refine⟨rb,sb,nb,ob,mf,km,⟨some ⟨gR,0,none⟩,8,8⟩,rfl,NN.out.b,⟨NN.out.C,?_,rfl,Inv.zero,NN.out.SC,NN.out.OA,MM.out.km,HE.out.below (NN.out.b.mono hB),by omega,WR NN.out.SC.M,Zq NN.out.OA⟩⟩;exact Vo NN.out.G (by have:=ZG.out;omega)
  obtain⟨s,hs,hsn,hc⟩:=Lg (show k<34 by omega);have g0:=(Ab NN.out.SC.N k).trans hc;have g2:=AV NN.out.C 15;simp only[List.getElem?_toArray,List.getElem?_cons_zero,List.getElem?_cons_succ]at g2;have hl1:(k:Int)<28:=by omega
  obtain⟨t1,q1,q2,q3⟩:=MM.out.put (by omega) s (by omega) (Ih 62 rb);have NX:Hid (NR w rb sb nb ob mf gR #[Vi 0,.slice none 0 0,Vs gR 8 8,.slice none 0 0,Vi 0,.bool false,.bool false,.bool false,.bool false,.bool false,.bool false,.bool false,.bool false,.slice none 0 0,Vq sb,.map (some km)] t1):=NN.out.grown q3 (by have:=Z1.out;have:=ZG.out;have:=ZK.out;omega) (by have:=Z1.out;have:=ZG.out;have:=ZK.out;omega) (by have:=Z1.out;have:=ZG.out;have:=ZK.out;omega) (by have:=Z1.out;have:=ZG.out;have:=ZK.out;omega) (by have:=Z1.out;have:=ZG.out;have:=ZK.out;omega) (by have:=Z1.out;have:=ZG.out;have:=ZK.out;omega) ZK.out;have MX:Hid (Gl t1 km (9+(k+1)) (Qb rb (k+1))):=q2.congr (fun l=>by rw[hsn];exact WV rb k hlt l);simp only[Ih]at q1;clear hc hsn q2 q3 MM;go_wp2_with fail;go_roundw
  case rel=>exact⟨k+1,by omega,by go_num,NX.out,MX.out⟩
  case measure=>simp[intOf];omega
theorem ic:Tryz.prog.globalNamed "internal/bytealg.MaxLen" =some (Tryz.laysCu_ren.g 0):=by kernel_rfl
theorem XE(t:List UInt8):Lib.bytesOf (t.map fun c=>(c.toNat:Int))=t:=by
 unfold Lib.bytesOf;rw[List.map_map];exact List.map_id'' (fun c=>by simp) t
def dV(b o cap:Nat)(t:List UInt8)(e:Ending):Prop:=
 if pre CY t=t.length then e=.returned (.tuple #[.slice (some ⟨b,o,none⟩) t.length cap,.slice none 0 0,.bool false])
 else∃o':Nat,e=.returned (.tuple #[.slice (some ⟨b,o,none⟩) (pre CY t) cap,.slice (some ⟨b,o',none⟩) (t.drop (pre CY t+1)).length (cap-(pre CY t+1)),.bool true])/\(o'=o+(pre CY t+1)∨(t.drop (pre CY t+1)).length=0)
theorem Z5(b o cap:Nat)(t:List UInt8)(g c2:Nat)(w:World)(hE:Env w B)(ht:(t.length:Int)<=1048576)(hcap:t.length<=cap)(hat:At w b o t.length (EG .u8 (bF t)))(hg:w.cell? (Va g 0)=some (.int .u8 10)):
 Calls Tryz.prog 31 #[.slice (some ⟨b,o,none⟩) t.length cap,Vs g 1 c2] w fun e w'=>dV b o cap t e/\Below w.heap.size w w':=by
 obtain⟨m,hm⟩:=hE.ml;have hc:w.cell? ⟨Tryz.laysCu_ren.g 0,0,none⟩=some (Vi m):=by simpa using World.var?_cell ic hm 0
 refine(Any.bytes_Cut_all Tryz.laysCu (some ⟨b,o,none⟩) (some ⟨g,0,none⟩) t.length cap 1 c2 (t.map fun c=>(c.toNat:Int)) [10] m w (by simp) rfl (fun x hx=>by
  obtain⟨c,_,rfl⟩:=List.mem_map.1 hx;have:=c.toNat_lt;omega) (by decide) (fun _=>⟨b,o,rfl,fun i hi=>by rw[hat.2 i hi];unfold EG bF;simp[hi]⟩) (fun _=>⟨g,0,rfl,fun i hi=>by
   obtain rfl:i=0:=by omega
   exact hg⟩) (by simp) hcap (by omega) (by decide) hc).mono ?_
 rintro e w'⟨rfl,q,rfl⟩;refine⟨?_,?_⟩
 ·rw[XE,show Lib.bytesOf [10]=[10]from rfl,Lib.index_one,OP]
  unfold dV Lib.cutV;by_cases h:pre CY t=t.length
  ·rw[if_pos h,if_pos h]
   rfl
  ·rw[if_neg h,if_neg h,if_pos (by omega)]
   simp only[Int.toNat_natCast,List.length_drop];unfold Lib.fromV;by_cases hc:cap=pre CY t+1
   ·rw[if_pos hc]
    have:=Fq CY t;exact⟨o,rfl,.inr (by omega)⟩
   ·rw[if_neg hc]
    refine⟨o+(pre CY t+1),?_,.inl rfl⟩;simp[Go.WideShapes.add_plain]
 ·exact below_drewN (Below.refl _ _) _
theorem H6{x:Nat}(hb:Below B w v)(hx:B<=x)(vs:List Value)(i:Nat):Below B w (setW v x i vs):=Bv hx vs i hb
theorem Oq{x:Nat}{rs:List Rw}(ht:∀(j:Nat)(r:Rw),rs[j]?=some r->r.t∈GL):∀(vs:List Value)(i:Nat)(u:World)(cs:Array Value),Et u B rs->u.heap[x]?=some (.cells cs 33)->Et (setW u x i vs) B rs
 |[],_,_,_,h,_=>h
 |v::vs,i,u,cs,h,hc=>by
  refine Oq ht vs (i+1) _ _ (h.keep fun j r k hr hk=>Below.heap_setCell u ⟨x,i,none⟩ v k (fun e=>?_)) (Bq hc i v);have e':k=x:=e;subst e';rcases(h.own j r hr).2 with⟨h',_⟩|⟨g,cap,cur,h',_,hh,_⟩
  ·rw[h']at hk;cases hk
  ·rw[h']at hk
   have e2:=Option.some.inj hk;subst e2;rw[hh]at hc;have e3:=(Obj.cells.inj (Option.some.inj hc)).2.1;have:=ht j r hr;rw[e3]at this;exact absurd this (by decide)
theorem Jo(B k:Nat)(S:PS)(w:World):RX B (k+1,S) (.returned (.agg #[Vi ((k:Int)+1),Vi 0,.slice none 0 0,.slice none 0 0,.slice none 0 0])) w:=by
 unfold RX;rw[if_neg (by simp)];rfl
theorem QE(b off cap:Nat)(t:List UInt8)(w:World)(hE:Env w w.heap.size)(ht:(t.length:Int)<=1048576)(hcap:t.length<=cap)(hat:At w b off t.length (EG .u8 (bF t))):
 Calls Tryz.prog 7 #[.slice (some ⟨b,off,none⟩) t.length cap] w fun e w'=>(if 100000<t.length then e=.returned (.agg #[Vi (-1),Vi 0,.slice none 0 0,.slice none 0 0,.slice none 0 0])else RX w.heap.size (psT t ps0 1) e w')/\Below w.heap.size w w':=by
 obtain⟨Post,hPost⟩:∃P:Ending->World->Prop,P=fun e w'=>(if 100000<t.length then e=.returned (.agg #[Vi (-1),Vi 0,.slice none 0 0,.slice none 0 0,.slice none 0 0])else RX w.heap.size (psT t ps0 1) e w')/\Below w.heap.size w w':=⟨_,rfl⟩
 rw[<-hPost];have HPO:=hxy hPost;have HE:=hxy hE;have HA:=hxy hat;have hbw:=hat.1;clear hPost hE hat;go_enter Tryz.func7,Tryz.ntmps7;go_upto_region 1 with fail;obtain⟨u,hu,bu,cu⟩:∃y,w.alloc (.cells #[Vi 0,Vi 0,.slice none 0 0,.slice none 0 0,.slice none 0 0] 33)=y/\Hid (Below w.heap.size w y)/\y.heap[w.heap.size]?=some (.cells #[Vi 0,Vi 0,.slice none 0 0,.slice none 0 0,.slice none 0 0] 33):=⟨_,rfl,Ak,Ai _ _⟩
 rw[hu];obtain⟨x,hx⟩:=Ae w.heap.size;rw[hx]at cu⊢;have HX:=hxy hx;have XC:=hxy cu;clear hu cu hx;by_cases hlong:100000<t.length
 ·have e1:(100000:Int)<(t.length:Int):=by omega
  have HFIN:Hid (Post (.returned (.agg #[Vi (-1),Vi 0,.slice none 0 0,.slice none 0 0,.slice none 0 0])) (setW u x 0 [Vi (-1),Vi 0,.slice none 0 0,.slice none 0 0,.slice none 0 0])):=(by
   rw[HPO.out];exact⟨by rw[if_pos hlong],H6 bu.out (Nat.le_of_eq HX.out) _ _⟩:Post (.returned (.agg #[Vi (-1),Vi 0,.slice none 0 0,.slice none 0 0,.slice none 0 0])) (setW u x 0 [Vi (-1),Vi 0,.slice none 0 0,.slice none 0 0,.slice none 0 0]))
  clear hlong;obtain⟨z0,z1,z2,z3,z4⟩:=dz XC.out;have zf:=CQ XC.out;go_wp2;exact bodyPost_ret (v:=.agg #[Vi (-1),Vi 0,.slice none 0 0,.slice none 0 0,.slice none 0 0]) (by simp[results,Tryz.results7,go_sem,z0,z1,z2,z3,z4]) rfl HFIN.out
 have e1:¬(100000:Int)<(t.length:Int):=by omega
 have HPS:Hid (∀e w',RX w.heap.size (psT t ps0 1) e w'->Below w.heap.size w w'->Post e w'):=(fun e w' h1 h2=>by rw[HPO.out];exact⟨by rw[if_neg hlong];exact h1,h2⟩:∀e w',RX w.heap.size (psT t ps0 1) e w'->Below w.heap.size w w'->Post e w')
 have HLN:Hid (t.length<=100000):=(by omega:t.length<=100000)
 clear hlong HPO;go_wp2_with fail;refine(ND w.heap.size u (HE.out.below bu.out) bu.out.size).mono ?_;rintro e w1⟨rb,sb,nb,ob,mf,km,sR0,rfl,hb1,hm1⟩;have B1:=hxy (bu.out.trans (hb1.mono bu.out.size));have C1:Hid (w1.heap[x]?=some (.cells #[Vi 0,Vi 0,.slice none 0 0,.slice none 0 0,.slice none 0 0] 33)):=(hb1.block x (jH.1 XC.out).1).trans XC.out;obtain⟨B,hBe⟩:=Ae w.heap.size;have HBE:=hxy hBe;rw[hBe]at hm1;have M1:=hxy hm1;clear hb1 hm1 bu XC hBe;go_wp2_with fail;go_loopw [0,4,5,6,7](fun tv nv _ _ _ wr=>∃(o' cap' k:Nat)(t':List UInt8)(S:PS)(sH sR sP sO:Sl)(bv:List Value),tv=.slice (some ⟨b,o',none⟩) t'.length cap'/\nv=Vi ((k:Int)+1)/\t'.length<=cap'/\At wr b o' t'.length (EG .u8 (bF t'))/\PR wr B S rb sb nb ob mf km sH sR sP sO bv/\Ie S k/\psT t ps0 1=psT t' S (k+1)/\k+t'.length<=t.length/\wr.heap[x]?=some (.cells #[Vi 0,Vi 0,.slice none 0 0,.slice none 0 0,.slice none 0 0] 33)/\Below w.heap.size w wr)(fun tv _ _ _ _ _=>match tv with|.slice _ k _=>k|_=>0)
 case atStart=>exact⟨off,cap,0,t,ps0,⟨none,0,0⟩,sR0,⟨none,0,0⟩,⟨none,0,0⟩,[],rfl,rfl,hcap,⟨jI HA.out.1 B1.out.size,fun i hi=>(B1.out.cell (p:=Va b (off+i)) hbw).trans (HA.out.2 i hi)⟩,M1.out,Ie.zero,rfl,by omega,C1.out,B1.out⟩
 case round=>
  clear M1 C1 B1;obtain⟨o',cap',k,t',S,sH,sR,sP,sO,bv,rfl,rfl,hc',hat,hpr,hbd,hps,hkl,hxc,hbl⟩:=hrel;have M:=hxy hpr;have HBD:=hxy hbd;have HP:=hxy hps;have AT:=hxy hat;have XC:=hxy hxc;have BL:=hxy hbl;have hBr:B<=wr.heap.size:=by have:=hbl.size;have:=HBE.out;omega
  clear hpr hbd hps hat hxc hbl;by_cases h0:t'=[]
  ·subst h0
   have hl0:¬(0:Int)<(([]:List UInt8).length:Int):=by simp
   obtain⟨c0,c1,c2,c3,c4,c13,c14,c15,c5,cf⟩:=M.out.cells;clear c5;by_cases h3:S.st=3
   rotate_left
   ·have e3:((S.st:Int) !=3)=true:=by rw[bne_iff_ne];omega
    have HFIN:Hid (Post (.returned (.agg #[Vi ((k:Int)+1),Vi 0,.slice none 0 0,.slice none 0 0,.slice none 0 0])) (setW wr x 0 [Vi ((k:Int)+1),Vi 0,.slice none 0 0,.slice none 0 0,.slice none 0 0])):=(by
     refine HPS.out _ _ ?_ (H6 BL.out (Nat.le_of_eq HX.out) _ _);rw[show psT t ps0 1=(k+1,S)by rw[HP.out,Le,if_neg (fun h=>h3 h.1)]];exact Jo _ _ _ _:Post (.returned (.agg #[Vi ((k:Int)+1),Vi 0,.slice none 0 0,.slice none 0 0,.slice none 0 0])) (setW wr x 0 [Vi ((k:Int)+1),Vi 0,.slice none 0 0,.slice none 0 0,.slice none 0 0]))
    clear h3;obtain⟨z0,z1,z2,z3,z4⟩:=dz XC.out;have zf:=CQ XC.out;go_wp2;exact bodyPost_ret (v:=.agg #[Vi ((k:Int)+1),Vi 0,.slice none 0 0,.slice none 0 0,.slice none 0 0]) (by simp[results,Tryz.results7,go_sem,z0,z1,z2,z3,z4]) rfl HFIN.out
   have e3:((S.st:Int) !=3)=false:=by rw[bne_eq_false_iff_eq];omega
   have hon:sO.n=S.op.length:=Ki (M.out.R.own 0 _ rfl);by_cases ho:S.op=[]
   rotate_left
   ·have e4:(0:Int)<(sO.n:Int):=by have:S.op.length≠0:=fun e=>ho (List.length_eq_zero_iff.1 e);omega
    have e4n:0<sO.n:=by omega
    have HFIN:Hid (Post (.returned (.agg #[Vi ((k:Int)+1),Vi 0,.slice none 0 0,.slice none 0 0,.slice none 0 0])) (setW wr x 0 [Vi ((k:Int)+1),Vi 0,.slice none 0 0,.slice none 0 0,.slice none 0 0])):=(by
     refine HPS.out _ _ ?_ (H6 BL.out (Nat.le_of_eq HX.out) _ _);rw[show psT t ps0 1=(k+1,S)by rw[HP.out,Le,if_neg (fun h=>ho h.2)]];exact Jo _ _ _ _:Post (.returned (.agg #[Vi ((k:Int)+1),Vi 0,.slice none 0 0,.slice none 0 0,.slice none 0 0])) (setW wr x 0 [Vi ((k:Int)+1),Vi 0,.slice none 0 0,.slice none 0 0,.slice none 0 0]))
    clear h3 ho hon;obtain⟨z0,z1,z2,z3,z4⟩:=dz XC.out;have zf:=CQ XC.out;go_wp2;exact bodyPost_ret (v:=.agg #[Vi ((k:Int)+1),Vi 0,.slice none 0 0,.slice none 0 0,.slice none 0 0]) (by simp[results,Tryz.results7,go_sem,z0,z1,z2,z3,z4]) rfl HFIN.out
   have e4:sO.n=0:=by rw[hon,ho];rfl
   have HFIN:Hid (Post (.returned (.agg #[Vi 0,Vi S.d,.slice sH.a sH.n sH.c,.slice sR.a sR.n sR.c,.slice sP.a sP.n sP.c])) (setW wr x 0 [Vi 0,Vi S.d,.slice sH.a sH.n sH.c,.slice sR.a sR.n sR.c,.slice sP.a sP.n sP.c])):=(by
    refine HPS.out _ _ ?_ (H6 BL.out (Nat.le_of_eq HX.out) _ _);rw[show psT t ps0 1=(0,S)by rw[HP.out,Le,if_pos ⟨h3,ho⟩]];unfold RX;rw[if_pos rfl];refine⟨sH,sR,sP,bv,rfl,?_,M.out.L,M.out.I,?_⟩
    ·have q:=Oq (x:=x) (fun j r hr=>(Pe j r hr).1) [Vi 0,Vi S.d,.slice sH.a sH.n sH.c,.slice sR.a sR.n sR.c,.slice sP.a sP.n sP.c] 0 wr _ M.out.R XC.out
     rw[Iz ho]at q;have d:=q.drop 1;rw[HBE.out];exact d
    ·have b:=HBD.out
     have:=HLN.out;exact⟨by have:=b.ps;show S.ps.length<=100001;omega,by have:=b.bd;show(Ac S).length<=100001;omega,by have:=b.op;show S.op.length<=100001;omega,fun o ho=>by have:=b.th o ho;omega,b.d⟩:Post (.returned (.agg #[Vi 0,Vi S.d,.slice sH.a sH.n sH.c,.slice sR.a sR.n sR.c,.slice sP.a sP.n sP.c])) (setW wr x 0 [Vi 0,Vi S.d,.slice sH.a sH.n sH.c,.slice sR.a sR.n sR.c,.slice sP.a sP.n sP.c]))
   clear h3 ho hon;obtain⟨z0,z1,z2,z3,z4⟩:=dz XC.out;have zf:=CQ XC.out;go_wp2;exact bodyPost_ret (v:=.agg #[Vi 0,Vi S.d,.slice sH.a sH.n sH.c,.slice sR.a sR.n sR.c,.slice sP.a sP.n sP.c]) (by simp[results,Tryz.results7,go_sem,z0,z1,z2,z3,z4]) rfl HFIN.out
  have hl0n:0<t'.length:=by cases t' with|nil=>exact absurd rfl h0|cons a l=>simp
  have hl0:(0:Int)<(t'.length:Int):=by omega
  have H0:=hxy h0;clear h0;have hcv0:(convert 22 22 (Vs wr.heap.size 1 1)).run Tryz.prog (wr.alloc (.cells #[.int .u8 10] 5))=.ok (Vs wr.heap.size 1 1) (wr.alloc (.cells #[.int .u8 10] 5 (1,2))):=Lib.run_convert_bytes_const wr 22 5 #[.int .u8 10] 1 1 Tryz.underlying22 Tryz.underlying5;go_upto_region 6 with fail;go_wp2_with fail;obtain⟨u1,hu1,bu1,cu1⟩:∃y,wr.alloc (.cells #[.int .u8 10] 5 (1,2))=y/\Below wr.heap.size wr y/\y.cell? ⟨wr.heap.size,0,none⟩=some (.int .u8 10):=⟨_,rfl,Ak,World.cell?_alloc_mark _ _ _ _ _⟩
  rw[hu1];have AT1:Hid (At u1 b o' t'.length (EG .u8 (bF t'))):=(⟨jI AT.out.1 bu1.size,fun i hi=>(bu1.cell (p:=Va b (o'+i)) AT.out.1).trans (AT.out.2 i hi)⟩:At u1 b o' t'.length (EG .u8 (bF t')))
  have M1:=hxy (M.out.below bu1);refine(Z5 b o' cap' t' wr.heap.size 1 u1 M1.out.E (by have:=HLN.out;omega) hc' AT1.out cu1).mono ?_;rintro e u2⟨hcut,bu2⟩;have BB:=bu1.trans (bu2.mono bu1.size);have M2:=hxy (M.out.below BB);have XC2:Hid (u2.heap[x]?=some (.cells #[Vi 0,Vi 0,.slice none 0 0,.slice none 0 0,.slice none 0 0] 33)):=(BB.block x (jH.1 XC.out).1).trans XC.out;have BL2:=hxy (BL.out.trans (BB.mono BL.out.size));have AT2:Hid (At u2 b o' t'.length (EG .u8 (bF t'))):=(⟨jI AT.out.1 BB.size,fun i hi=>(BB.cell (p:=Va b (o'+i)) AT.out.1).trans (AT.out.2 i hi)⟩:At u2 b o' t'.length (EG .u8 (bF t')))
  have hB2:B<=u2.heap.size:=by have:=BB.size;omega
  clear hu1 bu1 cu1 AT1 M1 bu2 BB AT M XC BL hcv0 hBr;unfold dV at hcut;by_cases hp:pre CY t'=t'.length
  ·rw[if_pos hp]at hcut
   subst hcut;have HFIN:Hid (Post (.returned (.agg #[Vi ((k:Int)+1),Vi 0,.slice none 0 0,.slice none 0 0,.slice none 0 0])) (setW u2 x 0 [Vi ((k:Int)+1),Vi 0,.slice none 0 0,.slice none 0 0,.slice none 0 0])):=(by
    refine HPS.out _ _ ?_ (H6 BL2.out (Nat.le_of_eq HX.out) _ _);rw[show psT t ps0 1=(k+1,S)by rw[HP.out,Pk,dif_neg H0.out,dif_pos hp]];exact Jo _ _ _ _:Post (.returned (.agg #[Vi ((k:Int)+1),Vi 0,.slice none 0 0,.slice none 0 0,.slice none 0 0])) (setW u2 x 0 [Vi ((k:Int)+1),Vi 0,.slice none 0 0,.slice none 0 0,.slice none 0 0]))
   have XC:=hxy XC2.out;clear hp;obtain⟨z0,z1,z2,z3,z4⟩:=dz XC.out;have zf:=CQ XC.out;go_wp2;exact bodyPost_ret (v:=.agg #[Vi ((k:Int)+1),Vi 0,.slice none 0 0,.slice none 0 0,.slice none 0 0]) (by simp[results,Tryz.results7,go_sem,z0,z1,z2,z3,z4]) rfl HFIN.out
  rw[if_neg hp]at hcut;obtain⟨o2,rfl,ho2⟩:=hcut;obtain⟨kk,hkk⟩:=Ae (pre CY t');have hkl2:kk<t'.length:=by have:=Fq CY t';omega
  have HST:Hid (psT t ps0 1=match Eb S (t'.take kk)with|none=>(k+1,S)|some S'=>psT (t'.drop (kk+1)) S' (k+1+1)):=(by
   rw[HP.out,Pk,dif_neg H0.out,dif_neg hp,hkk];rfl:psT t ps0 1=match Eb S (t'.take kk)with|none=>(k+1,S)|some S'=>psT (t'.drop (kk+1)) S' (k+1+1))
  rw[hkk]at ho2⊢;have HO2:=hxy ho2;have etk:(t'.take kk).length=kk:=by rw[List.length_take];omega
  obtain⟨l,hl⟩:=Ae (t'.take kk);have hcv:(convert 22 9 (.slice (some ⟨b,o',none⟩) kk cap')).run Tryz.prog u2=.ok (.string (Ck l)) u2:=by
   have q:=MV cap' (VP AT2.out kk);rw[etk,hl]at q;exact q
  rw[hl]at HST etk;have hll:(l.length:Int)<=199999:=by have:=HLN.out;omega
  obtain⟨t2,ht2⟩:=Ae (t'.drop (kk+1));have htl:t2.length=t'.length-(kk+1):=by rw[<-ht2,List.length_drop]
  have HT2:=hxy ht2;have HTL:=hxy htl;rw[ht2]at HST HO2⊢;clear hp hkk ho2 etk hl ht2 htl;go_wp2_with fail;refine(Xf B S rb sb nb ob mf km sH sR sP sO bv l u2 hB2 M2.out (HBD.out.mono (by have:=HLN.out;omega)) hll).mono ?_;rintro e u3⟨f3,rfl,p3⟩;have XC:Hid (u3.heap[x]?=some (.cells #[Vi 0,Vi 0,.slice none 0 0,.slice none 0 0,.slice none 0 0] 33)):=f3.k x _ XC2.out (fun c t f e=>by
   have:33=t:=(Obj.cells.inj e).2.1;subst this;decide)
  have BL3:Hid (Below w.heap.size w u3):=(by
   have q:=f3.b;rw[<-HBE.out]at q;exact BL2.out.trans q:Below w.heap.size w u3)
  cases hls:Eb S l with
  |none=>
   simp only[Option.isSome_none];have HFIN:Hid (Post (.returned (.agg #[Vi ((k:Int)+1),Vi 0,.slice none 0 0,.slice none 0 0,.slice none 0 0])) (setW u3 x 0 [Vi ((k:Int)+1),Vi 0,.slice none 0 0,.slice none 0 0,.slice none 0 0])):=(by
    refine HPS.out _ _ ?_ (H6 BL3.out (Nat.le_of_eq HX.out) _ _);rw[show psT t ps0 1=(k+1,S)by rw[HST.out,hls]];exact Jo _ _ _ _:Post (.returned (.agg #[Vi ((k:Int)+1),Vi 0,.slice none 0 0,.slice none 0 0,.slice none 0 0])) (setW u3 x 0 [Vi ((k:Int)+1),Vi 0,.slice none 0 0,.slice none 0 0,.slice none 0 0]))
   clear hls f3 p3;obtain⟨z0,z1,z2,z3,z4⟩:=dz XC.out;have zf:=CQ XC.out;go_wp2;exact bodyPost_ret (v:=.agg #[Vi ((k:Int)+1),Vi 0,.slice none 0 0,.slice none 0 0,.slice none 0 0]) (by simp[results,Tryz.results7,go_sem,z0,z1,z2,z3,z4]) rfl HFIN.out
  |some S'=>
   simp only[Option.isSome_some];obtain⟨sH',sR',sP',sO',bv',m3⟩:=p3 S' hls;have HM3:=hxy m3;have HB3:=hxy (HBD.out.line M2.out.I hls);have HP3:Hid (psT t ps0 1=psT t2 S' (k+1+1)):=(by rw[HST.out,hls]:psT t ps0 1=psT t2 S' (k+1+1))
   have AT3:Hid (At u3 b o2 t2.length (EG .u8 (bF t2))):=(by
    have hbu:b<u3.heap.size:=jI hbw BL3.out.size;rcases HO2.out with e|e
    ·have q:=VR AT2.out (kk+1) (by omega)
     rw[HT2.out,<-e]at q;exact⟨hbu,fun i hi=>(f3.b.cell (p:=Va b (o2+i)) (by have:=HBE.out;show b<B;omega)).trans (q.2 i hi)⟩
    ·exact⟨hbu,fun i hi=>by omega⟩:At u3 b o2 t2.length (EG .u8 (bF t2)))
   have hw1:IntKind.i64.wrap ((k:Int)+1+1)=(k:Int)+1+1:=LC (by omega) (by have:=HLN.out;omega);clear hls f3 p3 m3;go_wp2_with fail;go_roundw
   case rel=>exact⟨o2,cap'-(kk+1),k+1,t2,S',sH',sR',sP',sO',bv',rfl,by go_num,by have:=HTL.out;omega,AT3.out,HM3.out,HB3.out,HP3.out,by have:=HTL.out;omega,XC.out,BL3.out⟩
   case measure=>have:=HTL.out;simp;omega
end Go.Proofs.YtfpeecaaleijcaaGreatDoor
