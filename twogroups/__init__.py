"""Rates of guesses: how fair a choice by scores is to each of two groups."""
