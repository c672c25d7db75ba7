"""What was known when: knownwhen.stories.answers takes a list of calls and gives back their answers."""
