import Derived.Test.YtiphbmhoifggiaaGreatDoorAsmDig
import Derived.Test.YtiphbmhoifggiaaGreatDoorInsValid
set_option maxHeartbeats 32000000
set_option maxRecDepth 20000
namespace Go.Proofs.YtiphbmhoifggiaaGreatDoor
open Go.RowKit
def nmT:List ByteArray:=[⟨#[]⟩,⟨#[109,111,118]⟩,⟨#[109,111,118,105]⟩,⟨#[97,100,100]⟩,⟨#[115,117,98]⟩,⟨#[109,117,108]⟩,⟨#[97,110,100]⟩,⟨#[111,114]⟩,⟨#[120,111,114]⟩,⟨#[100,105,118]⟩,⟨#[97,100,100,105]⟩,⟨#[97,110,100,105]⟩,⟨#[115,104,108]⟩,⟨#[115,104,114]⟩,⟨#[97,100,100,115]⟩,⟨#[97,100,99]⟩,⟨#[115,117,98,115]⟩,⟨#[99,109,112]⟩,⟨#[99,109,112,105]⟩,⟨#[115,101,108,122]⟩,⟨#[115,101,108,99]⟩,⟨#[108,100,98]⟩,⟨#[108,100,113]⟩,⟨#[115,116,98]⟩,⟨#[115,116,113]⟩,⟨#[108,100,98,120]⟩,⟨#[108,100,113,120]⟩,⟨#[115,116,98,120]⟩,⟨#[115,116,113,120]⟩,⟨#[106,109,112]⟩,⟨#[106,122]⟩,⟨#[106,110,122]⟩,⟨#[106,99]⟩,⟨#[106,110,99]⟩,⟨#[104,97,108,116]⟩]
def nmS(op:Int):ByteArray:=nmT.getD op.toNat ⟨#[]⟩
def shpS(d op:Int):ByteArray:=
 if op=34 then(if d=0 then⟨#[]⟩else⟨#[]⟩)else
 if op=1 then(if d=0 then⟨#[37,114,65,44,32,37,114,68]⟩else⟨#[114,68,44,32,114,65]⟩)else
 if op=2 then(if d=0 then⟨#[36,73,44,32,37,114,68]⟩else⟨#[114,68,44,32,73]⟩)else
 if op=10∨op=11∨op=12∨op=13 then(if d=0 then⟨#[37,114,65,44,32,36,73,44,32,37,114,68]⟩else⟨#[114,68,44,32,114,65,44,32,73]⟩)else
 if op=17 then(if d=0 then⟨#[37,114,65,44,32,37,114,66]⟩else⟨#[114,65,44,32,114,66]⟩)else
 if op=18 then(if d=0 then⟨#[37,114,65,44,32,36,73]⟩else⟨#[114,65,44,32,73]⟩)else
 if op=21∨op=22 then(if d=0 then⟨#[73,40,37,114,65,41,44,32,37,114,68,32,35,32,104,72]⟩else⟨#[114,68,44,32,91,114,65,32,43,32,73,93,32,59,32,104,72]⟩)else
 if op=23∨op=24 then(if d=0 then⟨#[37,114,68,44,32,73,40,37,114,65,41,32,35,32,104,72]⟩else⟨#[91,114,65,32,43,32,73,93,44,32,114,68,32,59,32,104,72]⟩)else
 if op=25∨op=26 then(if d=0 then⟨#[40,37,114,65,44,37,114,66,41,44,32,37,114,68,32,35,32,104,72]⟩else⟨#[114,68,44,32,91,114,65,32,43,32,114,66,93,32,59,32,104,72]⟩)else
 if op=27∨op=28 then(if d=0 then⟨#[37,114,68,44,32,40,37,114,65,44,37,114,66,41,32,35,32,104,72]⟩else⟨#[91,114,65,32,43,32,114,66,93,44,32,114,68,32,59,32,104,72]⟩)else
 if op=29∨op=30∨op=31∨op=32∨op=33 then(if d=0 then⟨#[46,76,64]⟩else⟨#[76,64]⟩)else
 (if d=0 then⟨#[37,114,65,44,32,37,114,66,44,32,37,114,68]⟩else⟨#[114,68,44,32,114,65,44,32,114,66]⟩)
theorem names_any(w:World):
 Calls Tryz.prog 67 #[] w fun e w'=>e=.returned (.slice (some ⟨w.heap.size,0,none⟩) 35 35)/\w'=w.alloc (.cells (nmT.map Value.string).toArray 9):=by
 go_enter Tryz.func67,Tryz.ntmps67;go_wp2;go_ret;exact⟨rfl,rfl⟩
def shC(d:Int)(u:ByteArray)(bD bA bB bI:Bool)(s1 s2 s3 s4:ByteArray):Prop:=
 (d=0/\u=⟨#[68,65]⟩/\bD=true/\bA=true/\bB=false/\bI=false/\s1=⟨#[37,114,65]⟩/\s2=⟨#[37,114,65]⟩/\s3=⟨#[37,114,65]⟩/\s4=⟨#[37,114,65,44,32,37,114,68]⟩)∨
 (d=0/\u=⟨#[68,73]⟩/\bD=true/\bA=false/\bB=false/\bI=true/\s1=⟨#[]⟩/\s2=⟨#[]⟩/\s3=⟨#[36,73]⟩/\s4=⟨#[36,73,44,32,37,114,68]⟩)∨
 (d=0/\u=⟨#[68,65,66]⟩/\bD=true/\bA=true/\bB=true/\bI=false/\s1=⟨#[37,114,65]⟩/\s2=⟨#[37,114,65,44,32,37,114,66]⟩/\s3=⟨#[37,114,65,44,32,37,114,66]⟩/\s4=⟨#[37,114,65,44,32,37,114,66,44,32,37,114,68]⟩)∨
 (d=0/\u=⟨#[68,65,73]⟩/\bD=true/\bA=true/\bB=false/\bI=true/\s1=⟨#[37,114,65]⟩/\s2=⟨#[37,114,65]⟩/\s3=⟨#[37,114,65,44,32,36,73]⟩/\s4=⟨#[37,114,65,44,32,36,73,44,32,37,114,68]⟩)∨
 (d=0/\u=⟨#[65,66]⟩/\bD=false/\bA=true/\bB=true/\bI=false/\s1=⟨#[37,114,65]⟩/\s2=⟨#[37,114,65,44,32,37,114,66]⟩/\s3=⟨#[37,114,65,44,32,37,114,66]⟩/\s4=⟨#[37,114,65,44,32,37,114,66]⟩)∨
 (d=0/\u=⟨#[65,73]⟩/\bD=false/\bA=true/\bB=false/\bI=true/\s1=⟨#[37,114,65]⟩/\s2=⟨#[37,114,65]⟩/\s3=⟨#[37,114,65,44,32,36,73]⟩/\s4=⟨#[37,114,65,44,32,36,73]⟩)∨
 (d=1/\u=⟨#[68,65]⟩/\bD=true/\bA=true/\bB=false/\bI=false/\s1=⟨#[114,68]⟩/\s2=⟨#[114,68,44,32,114,65]⟩/\s3=⟨#[114,68,44,32,114,65]⟩/\s4=⟨#[114,68,44,32,114,65]⟩)∨
 (d=1/\u=⟨#[68,73]⟩/\bD=true/\bA=false/\bB=false/\bI=true/\s1=⟨#[114,68]⟩/\s2=⟨#[114,68]⟩/\s3=⟨#[114,68]⟩/\s4=⟨#[114,68,44,32,73]⟩)∨
 (d=1/\u=⟨#[68,65,66]⟩/\bD=true/\bA=true/\bB=true/\bI=false/\s1=⟨#[114,68]⟩/\s2=⟨#[114,68,44,32,114,65]⟩/\s3=⟨#[114,68,44,32,114,65,44,32,114,66]⟩/\s4=⟨#[114,68,44,32,114,65,44,32,114,66]⟩)∨
 (d=1/\u=⟨#[68,65,73]⟩/\bD=true/\bA=true/\bB=false/\bI=true/\s1=⟨#[114,68]⟩/\s2=⟨#[114,68,44,32,114,65]⟩/\s3=⟨#[114,68,44,32,114,65]⟩/\s4=⟨#[114,68,44,32,114,65,44,32,73]⟩)∨
 (d=1/\u=⟨#[65,66]⟩/\bD=false/\bA=true/\bB=true/\bI=false/\s1=⟨#[]⟩/\s2=⟨#[114,65]⟩/\s3=⟨#[114,65,44,32,114,66]⟩/\s4=⟨#[114,65,44,32,114,66]⟩)∨
 (d=1/\u=⟨#[65,73]⟩/\bD=false/\bA=true/\bB=false/\bI=true/\s1=⟨#[]⟩/\s2=⟨#[114,65]⟩/\s3=⟨#[114,65]⟩/\s4=⟨#[114,65,44,32,73]⟩)
theorem shape_loop(op d:Int)(w:World)(u:ByteArray)(bD bA bB bI:Bool)(s1 s2 s3 s4:ByteArray)(hu:usesS op=u)(kj:jumpB op=false)(k34:(op==34)=false)(k23:(op==23)=false)(k24:(op==24)=false)(k27:(op==27)=false)(k28:(op==28)=false)
 (hD:hasN u 68=bD)(hA:hasN u 65=bA)(hB:hasN u 66=bB)(hI:hasN u 73=bI)(hH:hasN u 72=false)(h:shC d u bD bA bB bI s1 s2 s3 s4):
 Calls Tryz.prog 66 #[.int .i64 op,.int .i64 d] w fun e w'=>e=.returned (.string s4)/\Below w.heap.size w w':=by
 have hl:u.size<=maxLen:=hu▸uses_le op;obtain⟨J,hj⟩:∃J:Value->Value->Prop,∀i o,J i o=((i=.int .i64 0/\o=.string ⟨#[]⟩)∨(i=.int .i64 1/\o=.string s1)∨(i=.int .i64 2/\o=.string s2)∨(i=.int .i64 3/\o=.string s3)∨(i=.int .i64 4/\o=.string s4)):=⟨_,fun _ _=>rfl⟩
 rcases h with⟨rfl,rfl,rfl,rfl,rfl,rfl,rfl,rfl,rfl,rfl⟩|⟨rfl,rfl,rfl,rfl,rfl,rfl,rfl,rfl,rfl,rfl⟩|⟨rfl,rfl,rfl,rfl,rfl,rfl,rfl,rfl,rfl,rfl⟩|⟨rfl,rfl,rfl,rfl,rfl,rfl,rfl,rfl,rfl,rfl⟩|⟨rfl,rfl,rfl,rfl,rfl,rfl,rfl,rfl,rfl,rfl⟩|⟨rfl,rfl,rfl,rfl,rfl,rfl,rfl,rfl,rfl,rfl⟩|⟨rfl,rfl,rfl,rfl,rfl,rfl,rfl,rfl,rfl,rfl⟩|⟨rfl,rfl,rfl,rfl,rfl,rfl,rfl,rfl,rfl,rfl⟩|⟨rfl,rfl,rfl,rfl,rfl,rfl,rfl,rfl,rfl,rfl⟩|⟨rfl,rfl,rfl,rfl,rfl,rfl,rfl,rfl,rfl,rfl⟩|⟨rfl,rfl,rfl,rfl,rfl,rfl,rfl,rfl,rfl,rfl⟩|⟨rfl,rfl,rfl,rfl,rfl,rfl,rfl,rfl,rfl,rfl⟩;all_goals
  have HJ:Hid _:=hj;clear hj;go_enter Tryz.func66,Tryz.ntmps66;go_wp2_with(first|(go_at_call 88;refine(uses_any _ _).mono ?_;rintro e w1⟨rfl,hw1⟩;rw[hw1];clear hw1)|(go_at_call 90;refine(has_n _ _ _ hl (by decide) (by decide)).mono ?_;rintro e w1⟨rfl,hw1⟩;rw[hw1];clear hw1)|(go_at_call 89;refine(jump_any _ _).mono ?_;rintro e w1⟨rfl,hw1⟩;rw[hw1];clear hw1));go_loopw [9,11,12](fun o i _ wr=>Below w.heap.size w wr/\J i o)(fun _ i _ _=>4-(intOf i).toNat)
  case atStart=>exact⟨Below.refl _ _,by rw[HJ.out];exact .inl ⟨rfl,rfl⟩⟩
  case round=>
   obtain⟨hb,hrel⟩:=hrel;rw[HJ.out]at hrel;rcases hrel with⟨rfl,rfl⟩|⟨rfl,rfl⟩|⟨rfl,rfl⟩|⟨rfl,rfl⟩|⟨rfl,rfl⟩;rotate_right
   ·go_wp2
    go_ret;exact⟨rfl,hb⟩
   all_goals
    have c65:(convert 30 9 (.slice (some ⟨wr.heap.size,0,none⟩) 1 1)).run Tryz.prog (wr.alloc (.cells #[.int .u8 65] 5))=.ok (.string ⟨#[65]⟩) (wr.alloc (.cells #[.int .u8 65] 5)):=conv_one wr 65 (by decide) (by decide);have c66:(convert 30 9 (.slice (some ⟨wr.heap.size,0,none⟩) 1 1)).run Tryz.prog (wr.alloc (.cells #[.int .u8 66] 5))=.ok (.string ⟨#[66]⟩) (wr.alloc (.cells #[.int .u8 66] 5)):=conv_one wr 66 (by decide) (by decide);have c68:(convert 30 9 (.slice (some ⟨wr.heap.size,0,none⟩) 1 1)).run Tryz.prog (wr.alloc (.cells #[.int .u8 68] 5))=.ok (.string ⟨#[68]⟩) (wr.alloc (.cells #[.int .u8 68] 5)):=conv_one wr 68 (by decide) (by decide);have c73:(convert 30 9 (.slice (some ⟨wr.heap.size,0,none⟩) 1 1)).run Tryz.prog (wr.alloc (.cells #[.int .u8 73] 5))=.ok (.string ⟨#[73]⟩) (wr.alloc (.cells #[.int .u8 73] 5)):=conv_one wr 73 (by decide) (by decide);have e00:∀h,(⟨#[65,66,73,68]⟩:ByteArray)[0]'h=65:=fun _=>rfl
    have e01:∀h,(⟨#[65,66,73,68]⟩:ByteArray)[1]'h=66:=fun _=>rfl
    have e02:∀h,(⟨#[65,66,73,68]⟩:ByteArray)[2]'h=73:=fun _=>rfl
    have e03:∀h,(⟨#[65,66,73,68]⟩:ByteArray)[3]'h=68:=fun _=>rfl
    have e10:∀h,(⟨#[68,65,66,73]⟩:ByteArray)[0]'h=68:=fun _=>rfl
    have e11:∀h,(⟨#[68,65,66,73]⟩:ByteArray)[1]'h=65:=fun _=>rfl
    have e12:∀h,(⟨#[68,65,66,73]⟩:ByteArray)[2]'h=66:=fun _=>rfl
    have e13:∀h,(⟨#[68,65,66,73]⟩:ByteArray)[3]'h=73:=fun _=>rfl
    go_wp2_with(first|(go_at_call 88;refine(uses_any _ _).mono ?_;rintro e w1⟨rfl,hw1⟩;rw[hw1];clear hw1)|(go_at_call 90;refine(has_n _ _ _ hl (by decide) (by decide)).mono ?_;rintro e w1⟨rfl,hw1⟩;rw[hw1];clear hw1)|(go_at_call 89;refine(jump_any _ _).mono ?_;rintro e w1⟨rfl,hw1⟩;rw[hw1];clear hw1));go_roundw
    case rel=>exact⟨by first|exact hb|exact hb.alloc hb.size _,by rw[HJ.out];first|exact .inr (.inl ⟨rfl,rfl⟩)|exact .inr (.inr (.inl ⟨rfl,rfl⟩))|exact .inr (.inr (.inr (.inl ⟨rfl,rfl⟩)))|exact .inr (.inr (.inr (.inr ⟨rfl,rfl⟩)))⟩
    case measure=>simp[intOf]
theorem shape_dir(op d:Int)(w:World)(u:ByteArray)(bH j:Bool)(hu:usesS op=u)(hH:hasN u 72=bH)(hj:jumpB op=j)(hd:d=0∨d=1)(h:(u=⟨#[68,65,73,72]⟩/\bH=true/\j=false/\(op=21∨op=22∨op=23∨op=24))∨(u=⟨#[68,65,66,72]⟩/\bH=true/\j=false/\(op=25∨op=26∨op=27∨op=28))∨(u=⟨#[73]⟩/\bH=false/\j=true/\(op=29∨op=30∨op=31∨op=32∨op=33))∨(u=⟨#[]⟩/\bH=false/\j=false/\(op=34))):
 Calls Tryz.prog 66 #[.int .i64 op,.int .i64 d] w fun e w'=>e=.returned (.string (shpS d op))/\Below w.heap.size w w':=by
 have hl:u.size<=maxLen:=hu▸uses_le op;rcases hd with rfl|rfl<;>rcases h with⟨rfl,rfl,rfl,rfl|rfl|rfl|rfl⟩|⟨rfl,rfl,rfl,rfl|rfl|rfl|rfl⟩|⟨rfl,rfl,rfl,rfl|rfl|rfl|rfl|rfl⟩|⟨rfl,rfl,rfl,rfl⟩
 all_goals
  go_enter Tryz.func66,Tryz.ntmps66;go_wp2_with(first|(go_at_call 88;refine(uses_any _ _).mono ?_;rintro e w1⟨rfl,hw1⟩;rw[hw1];clear hw1)|(go_at_call 90;refine(has_n _ _ _ hl (by decide) (by decide)).mono ?_;rintro e w1⟨rfl,hw1⟩;rw[hw1];clear hw1)|(go_at_call 89;refine(jump_any _ _).mono ?_;rintro e w1⟨rfl,hw1⟩;rw[hw1];clear hw1));all_goals(go_ret;exact⟨rfl,Below.refl _ _⟩)
theorem shape_any(op d:Int)(w:World)(h1:1<=op)(h2:op<=34)(hd:d=0∨d=1):
 Calls Tryz.prog 66 #[.int .i64 op,.int .i64 d] w fun e w'=>e=.returned (.string (shpS d op))/\Below w.heap.size w w':=by
 obtain h|h:op<=20∨21<=op:=by omega
 ·obtain rfl|rfl|rfl|rfl|rfl|rfl|rfl|rfl|rfl|rfl|rfl|rfl|rfl|rfl|rfl|rfl|rfl|rfl|rfl|rfl:op=1∨op=2∨op=3∨op=4∨op=5∨op=6∨op=7∨op=8∨op=9∨op=10∨op=11∨op=12∨op=13∨op=14∨op=15∨op=16∨op=17∨op=18∨op=19∨op=20:=by omega
  all_goals rcases hd with rfl|rfl
  all_goals exact shape_loop _ _ w _ _ _ _ _ _ _ _ _ rfl rfl rfl rfl rfl rfl rfl rfl rfl rfl rfl rfl (by first|exact .inl ⟨rfl,rfl,rfl,rfl,rfl,rfl,rfl,rfl,rfl,rfl⟩|exact .inr (.inl ⟨rfl,rfl,rfl,rfl,rfl,rfl,rfl,rfl,rfl,rfl⟩)|exact .inr (.inr (.inl ⟨rfl,rfl,rfl,rfl,rfl,rfl,rfl,rfl,rfl,rfl⟩))|exact .inr (.inr (.inr (.inl ⟨rfl,rfl,rfl,rfl,rfl,rfl,rfl,rfl,rfl,rfl⟩)))|exact .inr (.inr (.inr (.inr (.inl ⟨rfl,rfl,rfl,rfl,rfl,rfl,rfl,rfl,rfl,rfl⟩))))|exact .inr (.inr (.inr (.inr (.inr (.inl ⟨rfl,rfl,rfl,rfl,rfl,rfl,rfl,rfl,rfl,rfl⟩)))))|exact .inr (.inr (.inr (.inr (.inr (.inr (.inl ⟨rfl,rfl,rfl,rfl,rfl,rfl,rfl,rfl,rfl,rfl⟩))))))|exact .inr (.inr (.inr (.inr (.inr (.inr (.inr (.inl ⟨rfl,rfl,rfl,rfl,rfl,rfl,rfl,rfl,rfl,rfl⟩)))))))|exact .inr (.inr (.inr (.inr (.inr (.inr (.inr (.inr (.inl ⟨rfl,rfl,rfl,rfl,rfl,rfl,rfl,rfl,rfl,rfl⟩))))))))|exact .inr (.inr (.inr (.inr (.inr (.inr (.inr (.inr (.inr (.inl ⟨rfl,rfl,rfl,rfl,rfl,rfl,rfl,rfl,rfl,rfl⟩)))))))))|exact .inr (.inr (.inr (.inr (.inr (.inr (.inr (.inr (.inr (.inr (.inl ⟨rfl,rfl,rfl,rfl,rfl,rfl,rfl,rfl,rfl,rfl⟩))))))))))|exact .inr (.inr (.inr (.inr (.inr (.inr (.inr (.inr (.inr (.inr (.inr ⟨rfl,rfl,rfl,rfl,rfl,rfl,rfl,rfl,rfl,rfl⟩)))))))))))
 ·refine shape_dir op d w _ _ _ rfl rfl rfl hd ?_
  obtain rfl|rfl|rfl|rfl|rfl|rfl|rfl|rfl|rfl|rfl|rfl|rfl|rfl|rfl:op=21∨op=22∨op=23∨op=24∨op=25∨op=26∨op=27∨op=28∨op=29∨op=30∨op=31∨op=32∨op=33∨op=34:=by omega
  all_goals first|exact .inl ⟨rfl,rfl,rfl,by decide⟩|exact .inr (.inl ⟨rfl,rfl,rfl,by decide⟩)|exact .inr (.inr (.inl ⟨rfl,rfl,rfl,by decide⟩))|exact .inr (.inr (.inr ⟨rfl,rfl,rfl,by decide⟩))
end Go.Proofs.YtiphbmhoifggiaaGreatDoor
