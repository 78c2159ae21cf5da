"""Compiles programs by dice, and asks machines of images what they show; only for tests."""

from labelclocks.books import WORDS
from labelclocks.compiling import compiled
from labelclocks.linking import linked
from labelclocks.machine import Machine
from labelclocks.readtexts import program_of
from tests.heart import made_by_dice

# two units: calls of both, calls in last place, loops, functions that come to themselves, stores, a row
TWO = """
unit u size 10
use v.sum(worth number) number
use v.note(place number)
store s row 3 number
function main()
function down(worth n number) number
function twice(place p number)
body main
  local i number
  local x number
  ask x
  while (i < 3)
    s[i] = (x + i)
    call twice(s[i])
    i = (i + 1)
  x = call down(s[1])
  show 0 x
  if (s[2] < 5)
    call v.note(x)
  else
    x = call v.sum(4)
  show 1 (9 over s[0])
body down
  local r number
  if (n < 1)
    give 2
  r = call down((n - 1))
  give r
body twice
  p = (p * 2)
unit v size 10
store t number
function sum(worth n number) number
function note(place p number)
function last(worth n number)
body sum
  local k number
  while (k < n)
    k = (k + 1)
    if (k = 2)
      again
    t = (t + k)
  call last(n)
  give t
body note
  t = p
  show 2 t
  call last(t)
body last
  if (n < 1)
    give
  call last((n - 1))
"""


def two():
    return program_of(TWO)


def dice_book(dice):
    """A book with a number of its own for each word."""
    book = {word: dice.randint(1, 99) for word in WORDS}
    book.update({"taken": dice.randint(0, 99), "wait": dice.randint(0, 99)})
    return book


def objects_by_dice(dice, program, most_words=6):
    """The objects of a program's units, each one by words and registers that dice tell."""
    found = []
    for unit in program:
        words = made_by_dice(dice, unit, dice.randint(0, most_words))[2]
        found.append(compiled(unit, words, dice.randint(3, 8)))
    return found


def machine_of(objects, main, inputs, book, steps=20000, room=20000, needed=False):
    """The machine of the image of objects behind so many steps."""
    machine = Machine(linked(objects, main, room, needed), inputs, book)
    machine.go(steps)
    return machine


def shown(machine):
    """The triples (item, clock, stack) that a machine shows."""
    return list(zip(machine.trace(), machine.clocks(), machine.stacks()))
