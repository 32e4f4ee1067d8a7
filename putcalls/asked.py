"""The calls that ask about a program and leave it as it is.

Each answers a list of numbers; a refusal stands in it alone.
"""

from putcalls.program import ROW_CALL, all_calls
from putcalls.sound import is_sound
from putcalls.written import function_in_numbers, program_in_numbers, unended_in_numbers
from putcalls.running import calls_made, how_it_stands, run_of, times_made
from putcalls.putting import put_in, with_put_in
from putcalls.choosing import choice_for, program_size

MOST_STEPS = 1000
NOT_REFUSED = 0


def tell_shows(program):
    numbers = program_in_numbers(program)
    if program.unended is None:
        return numbers + [0]
    return numbers + [1] + unended_in_numbers(program.unended)


def run_refusal(program, f, n, words):
    if not is_sound(program):
        return -6
    if f >= len(program.functions):
        return -2
    if n > MOST_STEPS:
        return -1
    if len(words) != program.functions[f].handed:
        return -5
    return NOT_REFUSED


def choice_refusal(program, size, f, n, words):
    refusal = run_refusal(program, f, n, words)
    if refusal != NOT_REFUSED:
        return refusal
    # A call put in makes a program larger, so any choice's size is above as well.
    if program_size(program) > size:
        return -8
    return NOT_REFUSED


def run_in_numbers(run):
    return [len(run.said)] + run.said + how_it_stands(run) + [calls_made(run)]


def tell_run(program, f, n, words):
    refusal = run_refusal(program, f, n, words)
    if refusal != NOT_REFUSED:
        return [refusal]
    return run_in_numbers(run_of(program, f, n, words))


def tell_counts(program, f, n, words):
    refusal = run_refusal(program, f, n, words)
    if refusal != NOT_REFUSED:
        return [refusal]
    run = run_of(program, f, n, words)
    places = all_calls(program)
    numbers = [len(places)]
    for place in places:
        numbers.extend(place)
        numbers.append(times_made(run, place))
    return numbers


def is_call_at(program, f, b, r):
    if f >= len(program.functions) or b >= len(program.functions[f].blocks):
        return False
    rows = program.functions[f].blocks[b].rows
    return r < len(rows) and rows[r][0] == ROW_CALL


def tell_putin(program, f, b, r):
    if not is_sound(program):
        return [-6]
    if not is_call_at(program, f, b, r):
        return [-2]
    return function_in_numbers(put_in(program.functions[f], program.functions, b, r))


def tell_choose(program, size, f, n, words):
    refusal = choice_refusal(program, size, f, n, words)
    if refusal != NOT_REFUSED:
        return [refusal]
    choice = choice_for(program, size, run_of(program, f, n, words))
    numbers = [choice.spared, choice.size, len(choice.places)]
    for place in choice.places:
        numbers.extend(place)
    return numbers


def with_choice(program, size, f, n, words):
    choice = choice_for(program, size, run_of(program, f, n, words))
    return with_put_in(program, choice.places)


def tell_runchosen(program, size, f, n, words):
    refusal = choice_refusal(program, size, f, n, words)
    if refusal != NOT_REFUSED:
        return [refusal]
    return run_in_numbers(run_of(with_choice(program, size, f, n, words), f, n, words))


def tell_whole(program, size, f, n, words):
    refusal = choice_refusal(program, size, f, n, words)
    if refusal != NOT_REFUSED:
        return [refusal]
    return program_in_numbers(with_choice(program, size, f, n, words))
